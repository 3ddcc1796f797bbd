"""patterns on every sheet that may be: how many different rows of creases there are."""

import unittest
from functools import lru_cache
from itertools import count as from_nought_on

from onesquare.packets import creases, kth, patterns
from tests.plain_reading import SHEETS, creases_that_can_be


@lru_cache(maxsize=None)
def patterns_of_the_rows_told(w, h):
    """The different rows of creases that creases tells of the rows that kth tells, as tuples, in order."""
    different = set()
    for k in from_nought_on():
        answer = kth(w, h, k)
        if answer == [-2]:
            return sorted(different)
        different.add(tuple(creases(w, h, answer[2:])[2:]))


class Patterns(unittest.TestCase):
    def test_by_hand(self):
        self.assertEqual(patterns(1, 1), [0, 1])
        self.assertEqual(patterns(2, 1), [0, 2])
        self.assertEqual(patterns(1, 2), [0, 2])
        self.assertEqual(patterns(3, 1), [0, 4])
        self.assertEqual(patterns(2, 2), [0, 8])

    def test_a_strip_folds_in_every_way(self):
        # Folded crease by crease from one end, a strip can go either way at each.
        for length in range(1, 7):
            self.assertEqual(patterns(length, 1), [0, 2 ** (length - 1)], length)
            self.assertEqual(patterns(1, length), [0, 2 ** (length - 1)], length)

    def test_a_sheet_on_its_side_has_as_many(self):
        for w, h in SHEETS:
            self.assertEqual(patterns(w, h), patterns(h, w), (w, h))

    def test_every_sheet_against_the_creases_of_the_rows_told(self):
        for w, h in SHEETS:
            self.assertEqual(patterns(w, h), [0, len(patterns_of_the_rows_told(w, h))], (w, h))

    def test_every_sheet_against_the_plain_reading(self):
        for w, h in SHEETS:
            self.assertEqual(patterns(w, h), [0, len(set(creases_that_can_be(w, h)))], (w, h))


if __name__ == "__main__":
    unittest.main()
