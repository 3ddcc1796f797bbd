"""beneath: in how many rows that can be and fit told creases one square lies below another."""

import unittest
from itertools import islice, product

from onesquare.packets import beneath, many
from tests.plain_reading import (
    SHEETS, every_way_to_tell, how_many_creases, mountains_for_valleys, rows_that_fit, some_told,
)

SMALL = [(w, h) for w, h in SHEETS if w * h <= 5]
LARGE = [(w, h) for w, h in SHEETS if w * h > 5]


def in_how_many(rows, c, d):
    return sum(row.index(c) < row.index(d) for row in rows)


def ways_to_tell(w, h, step):
    return every_way_to_tell(w, h) if w * h <= 5 else islice(some_told(w, h), 0, None, step)


class BeneathByHand(unittest.TestCase):
    def test_one_square(self):
        self.assertEqual(beneath(1, 1, 0, 0, []), [0, 0])

    def test_one_crease(self):
        for w, h in ((2, 1), (1, 2)):
            self.assertEqual([beneath(w, h, 0, 1, [crease]) for crease in range(3)], [[0, 1], [0, 0], [0, 1]])
            self.assertEqual([beneath(w, h, 1, 0, [crease]) for crease in range(3)], [[0, 1], [0, 1], [0, 0]])

    def test_a_strip(self):
        for w, h in ((3, 1), (1, 3)):
            # Both creases valleys: 0 2 1 and 2 0 1.
            self.assertEqual(beneath(w, h, 0, 1, [2, 2]), [0, 2])
            self.assertEqual(beneath(w, h, 0, 2, [2, 2]), [0, 1])
            self.assertEqual(beneath(w, h, 1, 2, [2, 2]), [0, 0])
            # A valley alone: these two and 0 1 2.
            self.assertEqual(beneath(w, h, 0, 2, [2, 0]), [0, 2])
            self.assertEqual(beneath(w, h, 2, 0, [2, 0]), [0, 1])
            self.assertEqual(beneath(w, h, 1, 2, [2, 0]), [0, 1])

    def test_two_by_two(self):
        # A valley between 0 and 1: 0 1 3 2, 0 2 3 1, 2 0 1 3 and 3 2 0 1.
        self.assertEqual(beneath(2, 2, 0, 1, [2, 0, 0, 0]), [0, 4])
        self.assertEqual(beneath(2, 2, 1, 0, [2, 0, 0, 0]), [0, 0])
        self.assertEqual(beneath(2, 2, 0, 3, [2, 0, 0, 0]), [0, 3])
        self.assertEqual(beneath(2, 2, 3, 0, [2, 0, 0, 0]), [0, 1])
        self.assertEqual(beneath(2, 2, 2, 3, [2, 0, 0, 0]), [0, 2])

    def test_creases_that_no_row_has(self):
        for c, d in product(range(4), repeat=2):
            self.assertEqual(beneath(2, 2, c, d, [1, 1, 1, 1]), [0, 0], (c, d))
            self.assertEqual(beneath(2, 2, c, d, [1, 2, 1, 2]), [0, 0], (c, d))


class Beneath(unittest.TestCase):
    def hold(self, w, h, told, pairs):
        rows = rows_that_fit(w, h, told)
        for c, d in pairs:
            self.assertEqual(beneath(w, h, c, d, told), [0, in_how_many(rows, c, d)], (w, h, c, d, told))

    def test_every_pair_and_every_way_to_tell_on_small_sheets(self):
        for w, h in SMALL:
            for told in every_way_to_tell(w, h):
                self.hold(w, h, told, product(range(w * h), repeat=2))

    def test_every_way_to_tell_at_some_pairs_of_six_squares(self):
        for w, h in LARGE:
            if w * h == 6:
                # 35 of them, no multiple of 3: so each comes up with every way to tell the last creases.
                pairs = list(product(range(6), repeat=2))[:-1]
                for at, told in enumerate(every_way_to_tell(w, h)):
                    self.hold(w, h, told, [pairs[at % 35], pairs[(at + 17) % 35]])

    def test_every_pair_at_some_ways_to_tell_on_large_sheets(self):
        for w, h in LARGE:
            for told in islice(some_told(w, h), 0, None, 31):
                self.hold(w, h, told, product(range(w * h), repeat=2))

    def test_every_pair_at_all_either(self):
        for w, h in SHEETS:
            self.hold(w, h, [0] * how_many_creases(w, h), product(range(w * h), repeat=2))

    def test_no_square_lies_below_itself(self):
        for w, h in SHEETS:
            for told in ways_to_tell(w, h, 17):
                for c in range(w * h):
                    self.assertEqual(beneath(w, h, c, c, told), [0, 0], (w, h, c, told))


class WithOtherCalls(unittest.TestCase):
    def test_both_ways_make_many(self):
        for w, h in SHEETS:
            for told in ways_to_tell(w, h, 59):
                rows = many(w, h, told)[1]
                for c, d in product(range(w * h), repeat=2):
                    if c < d:
                        both = beneath(w, h, c, d, told)[1] + beneath(w, h, d, c, told)[1]
                        self.assertEqual(both, rows, (w, h, c, d, told))

    def test_mountains_for_valleys_put_above_what_lay_beneath(self):
        for w, h in SHEETS:
            for told in ways_to_tell(w, h, 83):
                swapped = mountains_for_valleys(told)
                for c, d in product(range(w * h), repeat=2):
                    self.assertEqual(beneath(w, h, d, c, swapped), beneath(w, h, c, d, told), (w, h, c, d, told))


if __name__ == "__main__":
    unittest.main()
