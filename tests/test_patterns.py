"""patterns and pattern on every sheet that may be: the different rows of creases, each once and in order."""

import unittest
from functools import lru_cache

from onesquare.packets import creases, many, pattern, patterns
from tests.plain_reading import SHEETS, creases_that_can_be, how_many_creases
from tests.test_count_and_kth import rows_told

LARGEST = 4294967295


@lru_cache(maxsize=None)
def patterns_of_the_rows_told(w, h):
    """The different rows of creases that creases tells of the rows that kth tells, as lists, in order."""
    return sorted(map(list, {tuple(creases(w, h, list(row))[2:]) for row in rows_told(w, h)}))


class Patterns(unittest.TestCase):
    def test_by_hand(self):
        self.assertEqual(patterns(1, 1), [0, 1])
        self.assertEqual(patterns(2, 1), [0, 2])
        self.assertEqual(patterns(1, 2), [0, 2])
        self.assertEqual(patterns(3, 1), [0, 4])
        self.assertEqual(patterns(2, 2), [0, 8])

    def test_a_strip_folds_in_every_way(self):
        # Folded crease by crease from one end, a strip can go either way at each.
        for length in range(1, 7):
            self.assertEqual(patterns(length, 1), [0, 2 ** (length - 1)], length)
            self.assertEqual(patterns(1, length), [0, 2 ** (length - 1)], length)

    def test_a_sheet_on_its_side_has_as_many(self):
        for w, h in SHEETS:
            self.assertEqual(patterns(w, h), patterns(h, w), (w, h))

    def test_every_sheet_against_the_creases_of_the_rows_told(self):
        for w, h in SHEETS:
            self.assertEqual(patterns(w, h), [0, len(patterns_of_the_rows_told(w, h))], (w, h))

    def test_every_sheet_against_the_plain_reading(self):
        for w, h in SHEETS:
            self.assertEqual(patterns(w, h), [0, len(set(creases_that_can_be(w, h)))], (w, h))


class Pattern(unittest.TestCase):
    def test_by_hand(self):
        for w, h in ((2, 1), (1, 2)):
            self.assertEqual([pattern(w, h, k) for k in range(3)], [[0, 1, 1], [0, 1, 2], [-2]])
        for w, h in ((3, 1), (1, 3)):
            self.assertEqual([pattern(w, h, k) for k in range(5)], [
                [0, 2, 1, 1], [0, 2, 1, 2], [0, 2, 2, 1], [0, 2, 2, 2], [-2],
            ])
        self.assertEqual([pattern(2, 2, k) for k in range(9)], [
            [0, 4, 1, 1, 1, 2], [0, 4, 1, 1, 2, 1], [0, 4, 1, 2, 1, 1], [0, 4, 1, 2, 2, 2],
            [0, 4, 2, 1, 1, 1], [0, 4, 2, 1, 2, 2], [0, 4, 2, 2, 1, 2], [0, 4, 2, 2, 2, 1],
            [-2],
        ])

    def test_one_square_has_the_one_row_of_no_creases(self):
        self.assertEqual(pattern(1, 1, 0), [0, 0])
        for k in (1, 2, 7, LARGEST):
            self.assertEqual(pattern(1, 1, k), [-2], k)

    def test_just_those_of_the_rows_told_each_once_in_order(self):
        for w, h in SHEETS:
            answers = [pattern(w, h, k) for k in range(patterns(w, h)[1])]
            expected = [[0, how_many_creases(w, h)] + told for told in patterns_of_the_rows_told(w, h)]
            self.assertEqual(answers, expected, (w, h))

    def test_against_the_plain_reading(self):
        for w, h in SHEETS:
            different = sorted(set(creases_that_can_be(w, h)))
            for k in range(0, len(different), 1 if w * h <= 6 else 3):
                self.assertEqual(pattern(w, h, k), [0, how_many_creases(w, h), *different[k]], (w, h, k))

    def test_none_behind_the_last(self):
        for w, h in SHEETS:
            last = patterns(w, h)[1] - 1
            self.assertEqual(pattern(w, h, last)[0], 0, (w, h))
            behind = list(range(last + 1, last + 6)) + [2 * last + 2, 1367, 10 ** 6, 2 ** 31, 2 ** 32 - 2, LARGEST]
            for k in behind:
                self.assertEqual(pattern(w, h, k), [-2], (w, h, k))

    def test_some_row_fits_each(self):
        for w, h in SHEETS:
            for k in range(0, patterns(w, h)[1], 1 if w * h <= 8 else 5):
                self.assertGreater(many(w, h, pattern(w, h, k)[2:])[1], 0, (w, h, k))


if __name__ == "__main__":
    unittest.main()
