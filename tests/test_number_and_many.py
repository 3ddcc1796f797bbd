"""number and many: which one a row is of those that can be, and how many fit told creases."""

import unittest
from itertools import islice, permutations

from onesquare.packets import count, many, number
from tests.plain_reading import (
    SHEETS, every_way_to_tell, how_many_creases, how_many_fit, mountains_for_valleys, rows_that_can_be, some_told,
)
from tests.test_count_and_kth import rows_told

SMALL = [(w, h) for w, h in SHEETS if w * h <= 6]
LARGE = [(w, h) for w, h in SHEETS if w * h > 6]


class Number(unittest.TestCase):
    def test_by_hand(self):
        self.assertEqual(number(1, 1, [0]), [0, 0])
        self.assertEqual(number(2, 1, [0, 1]), [0, 0])
        self.assertEqual(number(1, 2, [1, 0]), [0, 1])
        self.assertEqual(number(3, 1, [1, 2, 0]), [0, 3])
        self.assertEqual(number(2, 2, [0, 1, 3, 2]), [0, 0])
        self.assertEqual(number(2, 2, [2, 0, 1, 3]), [0, 4])
        self.assertEqual(number(2, 2, [3, 2, 0, 1]), [0, 7])
        self.assertEqual(number(2, 2, [0, 1, 2, 3]), [-2])
        self.assertEqual(number(4, 1, [0, 2, 1, 3]), [-2])
        self.assertEqual(number(3, 3, [0, 1, 2, 3, 4, 5, 6, 7, 8]), [-2])

    def test_the_row_that_kth_tells(self):
        for w, h in SHEETS:
            for k, row in enumerate(rows_told(w, h)):
                self.assertEqual(number(w, h, list(row)), [0, k], (w, h, k))

    def hold(self, w, h, rows):
        numbers = {row: k for k, row in enumerate(rows_that_can_be(w, h))}
        for row in rows:
            expected = [0, numbers[row]] if row in numbers else [-2]
            self.assertEqual(number(w, h, list(row)), expected, (w, h, row))

    def test_every_row_of_eight_squares_at_most(self):
        for w, h in SHEETS:
            if w * h <= 8:
                self.hold(w, h, permutations(range(w * h)))

    def test_rows_of_nine_squares(self):
        self.hold(3, 3, rows_that_can_be(3, 3))
        self.hold(3, 3, islice(permutations(range(9)), 0, None, 31))


class Many(unittest.TestCase):
    def test_by_hand(self):
        self.assertEqual(many(1, 1, []), [0, 1])
        self.assertEqual(many(2, 1, [0]), [0, 2])
        self.assertEqual(many(2, 1, [1]), [0, 1])
        self.assertEqual(many(1, 2, [2]), [0, 1])
        self.assertEqual(many(3, 1, [2, 0]), [0, 3])
        self.assertEqual(many(3, 1, [2, 2]), [0, 2])
        self.assertEqual(many(1, 3, [2, 1]), [0, 1])
        self.assertEqual(many(2, 2, [2, 2, 2, 1]), [0, 1])
        self.assertEqual(many(2, 2, [0, 2, 2, 1]), [0, 1])
        self.assertEqual(many(2, 2, [2, 0, 0, 0]), [0, 4])

    def test_all_either_is_as_count(self):
        for w, h in SHEETS:
            self.assertEqual(many(w, h, [0] * how_many_creases(w, h)), count(w, h), (w, h))

    def test_every_way_to_tell_on_small_sheets(self):
        for w, h in SMALL:
            for told in every_way_to_tell(w, h):
                self.assertEqual(many(w, h, told), [0, how_many_fit(w, h, told)], (w, h, told))

    def test_some_ways_to_tell_on_large_sheets(self):
        for w, h in LARGE:
            for told in some_told(w, h):
                self.assertEqual(many(w, h, told), [0, how_many_fit(w, h, told)], (w, h, told))

    def test_creases_that_no_row_has(self):
        # Around a corner within the sheet three creases are alike, and not the fourth.
        for told in ([1, 1, 1, 1], [2, 2, 2, 2], [1, 1, 2, 2], [1, 2, 1, 2], [2, 1, 1, 2]):
            self.assertEqual(many(2, 2, told), [0, 0], told)
        for w, h in SHEETS:
            if w > 1 and h > 1:
                for crease in (1, 2):
                    self.assertEqual(many(w, h, [crease] * how_many_creases(w, h)), [0, 0], (w, h))

    def test_mountains_for_valleys_tell_as_many(self):
        for w, h in SHEETS:
            for told in every_way_to_tell(w, h) if w * h <= 5 else islice(some_told(w, h), 0, None, 5):
                self.assertEqual(many(w, h, mountains_for_valleys(told)), many(w, h, told), (w, h, told))


if __name__ == "__main__":
    unittest.main()
