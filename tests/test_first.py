"""first: the rows that can be and fit told creases are told, each once and in order."""

import unittest
from itertools import islice

from onesquare.packets import creases, first, kth, many
from tests.plain_reading import (
    SHEETS, as_told, every_way_to_tell, how_many_creases, mountains_for_valleys, rows_that_can_be, rows_that_fit,
    some_told,
)

LARGEST = 4294967295
SMALL = [(w, h) for w, h in SHEETS if w * h <= 6]
LARGE = [(w, h) for w, h in SHEETS if w * h > 6]


class FirstByHand(unittest.TestCase):
    def test_one_square(self):
        self.assertEqual(first(1, 1, 0, []), [0, 1, 0])
        self.assertEqual(first(1, 1, 1, []), [-2])
        self.assertEqual(first(1, 1, LARGEST, []), [-2])

    def test_one_crease(self):
        for w, h in ((2, 1), (1, 2)):
            self.assertEqual([first(w, h, k, [0]) for k in range(3)], [[0, 2, 0, 1], [0, 2, 1, 0], [-2]])
            self.assertEqual([first(w, h, k, [1]) for k in range(2)], [[0, 2, 1, 0], [-2]])
            self.assertEqual([first(w, h, k, [2]) for k in range(2)], [[0, 2, 0, 1], [-2]])

    def test_a_strip(self):
        for w, h in ((3, 1), (1, 3)):
            self.assertEqual([first(w, h, k, [2, 2]) for k in range(3)], [[0, 3, 0, 2, 1], [0, 3, 2, 0, 1], [-2]])
            self.assertEqual([first(w, h, k, [2, 1]) for k in range(2)], [[0, 3, 0, 1, 2], [-2]])
            self.assertEqual([first(w, h, k, [1, 2]) for k in range(2)], [[0, 3, 2, 1, 0], [-2]])
            self.assertEqual([first(w, h, k, [0, 1]) for k in range(4)], [
                [0, 3, 0, 1, 2], [0, 3, 1, 0, 2], [0, 3, 1, 2, 0], [-2],
            ])

    def test_two_by_two(self):
        self.assertEqual([first(2, 2, k, [2, 2, 2, 1]) for k in range(2)], [[0, 4, 0, 1, 3, 2], [-2]])
        self.assertEqual([first(2, 2, k, [2, 0, 0, 0]) for k in range(5)], [
            [0, 4, 0, 1, 3, 2], [0, 4, 0, 2, 3, 1], [0, 4, 2, 0, 1, 3], [0, 4, 3, 2, 0, 1], [-2],
        ])
        self.assertEqual([first(2, 2, k, [0, 1, 0, 1]) for k in range(3)], [
            [0, 4, 1, 0, 2, 3], [0, 4, 2, 0, 1, 3], [-2],
        ])


class First(unittest.TestCase):
    def hold(self, w, h, told, ks):
        rows = rows_that_fit(w, h, told)
        for k in ks:
            expected = [0, w * h] + list(rows[k]) if k < len(rows) else [-2]
            self.assertEqual(first(w, h, k, told), expected, (w, h, k, told))

    def test_every_way_to_tell_on_small_sheets(self):
        for w, h in SMALL:
            for told in every_way_to_tell(w, h):
                self.hold(w, h, told, [*range(len(rows_that_fit(w, h, told)) + 1), LARGEST])

    def test_some_ways_to_tell_on_large_sheets(self):
        for w, h in LARGE:
            for told in islice(some_told(w, h), 0, None, 3):
                rows = len(rows_that_fit(w, h, told))
                self.hold(w, h, told, [0, rows // 2, max(rows - 1, 0), rows])

    def test_none_behind_the_last(self):
        for w, h in SHEETS:
            for told in islice(some_told(w, h), 0, None, 31):
                rows = len(rows_that_fit(w, h, told))
                self.hold(w, h, told, [rows + 1, 2 * rows, 9 * rows, 1368, 10 ** 6, 2 ** 31, 2 ** 32 - 2, LARGEST])

    def test_none_where_no_row_fits(self):
        # Around a corner within the sheet three creases are alike, and not the fourth.
        for w, h in SHEETS:
            if w > 1 and h > 1:
                for crease in (1, 2):
                    for k in (0, 1, 2, 7, 1367, LARGEST):
                        self.assertEqual(first(w, h, k, [crease] * how_many_creases(w, h)), [-2], (w, h, k))
        for told in ([1, 1, 2, 2], [1, 2, 1, 2], [2, 1, 1, 2]):
            for k in (0, 1, 7, LARGEST):
                self.assertEqual(first(2, 2, k, told), [-2], (k, told))

    def test_all_either_is_as_kth(self):
        for w, h in SHEETS:
            rows = len(rows_that_can_be(w, h))
            ks = range(0, rows, 1 if w * h <= 8 else 23)
            for k in [*ks, rows - 1, rows, rows + 1, 10 ** 6, LARGEST]:
                self.assertEqual(first(w, h, k, [0] * how_many_creases(w, h)), kth(w, h, k), (w, h, k))


class WithOtherCalls(unittest.TestCase):
    def ways_to_tell(self, w, h):
        return every_way_to_tell(w, h) if w * h <= 5 else islice(some_told(w, h), 0, None, 7)

    def test_what_is_told_fits(self):
        for w, h in SHEETS:
            for told in self.ways_to_tell(w, h):
                for k in range(0, many(w, h, told)[1], 1 if w * h <= 6 else 29):
                    row = first(w, h, k, told)[2:]
                    answer = creases(w, h, row)
                    self.assertEqual(answer[:2], [0, len(told)], (w, h, row))
                    self.assertTrue(as_told(answer[2:], told), (w, h, k, told))

    def test_as_many_as_many_says(self):
        for w, h in SHEETS:
            for told in self.ways_to_tell(w, h):
                rows = many(w, h, told)[1]
                self.assertEqual(first(w, h, rows, told), [-2], (w, h, told))
                if rows > 0:
                    self.assertEqual(first(w, h, rows - 1, told)[:2], [0, w * h], (w, h, told))

    def test_mountains_for_valleys_tell_the_rows_the_other_way_round(self):
        for w, h in SMALL:
            for told in self.ways_to_tell(w, h):
                rows = range(many(w, h, told)[1])
                one_way = [first(w, h, k, told)[2:] for k in rows]
                other_way = [first(w, h, k, mountains_for_valleys(told))[2:] for k in rows]
                self.assertEqual(sorted(row[::-1] for row in one_way), other_way, (w, h, told))


if __name__ == "__main__":
    unittest.main()
