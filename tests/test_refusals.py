"""The refusal -1, and that it comes before all else."""

import unittest
from itertools import product

from onesquare.packets import beneath, count, creases, first, judge, kth, many, number, pattern, patterns
from tests.plain_reading import SHEETS, Sheet, creased, how_many_creases, judged, rows_that_can_be

LARGEST = 4294967295
CALLS = (judge, creases, number)


class NoSheet(unittest.TestCase):
    def refuse(self, w, h, row):
        for call in CALLS:
            self.assertEqual(call(w, h, row), [-1], (call, w, h, row))

    def test_along_out_of_range(self):
        for wrong in (0, 7, 8, 9, LARGEST):
            for other in (0, 1, 2, 6, 7, LARGEST):
                squares = min(wrong * other, 40)
                for row in ([], [0], list(range(squares)), list(reversed(range(squares)))):
                    self.refuse(wrong, other, row)
                    self.refuse(other, wrong, row)

    def test_above_nine_squares(self):
        for w, h in product(range(1, 7), repeat=2):
            if w * h > 9:
                for row in ([], [0], list(range(w * h)), list(reversed(range(w * h))), list(range(9))):
                    self.refuse(w, h, row)

    def test_those_named(self):
        for w, h in ((2, 5), (3, 4), (4, 3), (5, 2), (6, 6)):
            self.refuse(w, h, list(range(w * h)))

    def test_before_a_row_that_cannot_be(self):
        self.refuse(5, 2, [0, 2, 1, 3, 4, 5, 6, 7, 8, 9])
        self.refuse(7, 1, [0, 2, 1, 3, 4, 5, 6])
        self.refuse(1, 8, [0, 2, 1, 3, 4, 5, 6, 7])

    def test_the_largest_sheets_are_taken(self):
        for w, h in ((6, 1), (1, 6), (3, 3), (2, 4), (4, 2)):
            for call in CALLS:
                self.assertNotEqual(call(w, h, list(range(w * h))), [-1])


class NoSheetToCount(unittest.TestCase):
    """The calls that are handed no row and no creases: small k would tell a row, large k would answer -2."""

    def refuse(self, w, h):
        self.assertEqual(count(w, h), [-1], (w, h))
        self.assertEqual(patterns(w, h), [-1], (w, h))
        for k in (0, 1, 2, 5, 1368, LARGEST):
            self.assertEqual(kth(w, h, k), [-1], (w, h, k))
            self.assertEqual(pattern(w, h, k), [-1], (w, h, k))

    def test_along_out_of_range(self):
        for wrong in (0, 7, 8, 9, 10, LARGEST):
            for other in (0, 1, 2, 3, 4, 5, 6, 7, LARGEST):
                self.refuse(wrong, other)
                self.refuse(other, wrong)

    def test_above_nine_squares(self):
        for w, h in product(range(1, 7), repeat=2):
            if w * h > 9:
                self.refuse(w, h)

    def test_those_named(self):
        for w, h in ((2, 5), (3, 4), (4, 3), (5, 2), (6, 6)):
            self.refuse(w, h)

    def test_no_sheet_that_may_be_is_refused(self):
        for w, h in SHEETS:
            self.assertEqual(count(w, h)[0], 0, (w, h))
            self.assertEqual(patterns(w, h)[0], 0, (w, h))
            self.assertEqual(kth(w, h, 0)[0], 0, (w, h))
            self.assertEqual(kth(w, h, LARGEST), [-2], (w, h))
            self.assertEqual(pattern(w, h, 0)[0], 0, (w, h))
            self.assertEqual(pattern(w, h, LARGEST), [-2], (w, h))


class NoRow(unittest.TestCase):
    def refuse(self, w, h, row):
        for call in CALLS:
            self.assertEqual(call(w, h, row), [-1], (call, w, h, row))

    def test_empty_short_and_long(self):
        for w, h in SHEETS:
            squares = w * h
            for length in range(41):
                if length != squares:
                    self.refuse(w, h, list(range(length)))
                    self.refuse(w, h, [c % squares for c in range(length)])
                    self.refuse(w, h, [0] * length)

    def test_a_square_twice(self):
        for w, h in SHEETS:
            for c, d in product(range(w * h), repeat=2):
                if c != d:
                    row = list(range(w * h))
                    row[c] = d
                    self.refuse(w, h, row)

    def test_a_number_that_is_no_square(self):
        for w, h in SHEETS:
            for at in range(w * h):
                for wrong in (w * h, w * h + 1, 9, 40, LARGEST):
                    if wrong >= w * h:
                        row = list(range(w * h))
                        row[at] = wrong
                        self.refuse(w, h, row)

    def test_before_what_cannot_be(self):
        # Without their last number these can't be, at square 0: it's still no row.
        self.refuse(4, 1, [0, 2, 1, 3, 3])
        self.refuse(4, 1, [0, 2, 1, 3, LARGEST])
        self.refuse(2, 2, [0, 1, 2, 3, 0])
        self.refuse(5, 1, [0, 2, 1, 3])

    def test_every_short_list(self):
        for w, h in ((1, 1), (2, 1), (1, 2), (3, 1), (1, 3), (2, 2), (4, 1)):
            sheet = Sheet(w, h)
            for length in range(6):
                for numbers in map(list, product(range(5), repeat=length)):
                    is_row = sorted(numbers) == list(range(w * h))
                    self.assertEqual(judge(w, h, numbers), judged(sheet, numbers) if is_row else [-1])
                    self.assertEqual(creases(w, h, numbers), creased(sheet, numbers) if is_row else [-1])
                    self.assertEqual(number(w, h, numbers), numbered(w, h, numbers) if is_row else [-1])


class NoCreases(unittest.TestCase):
    """The calls that are handed told creases: of first, small k would tell a row, large k would answer -2."""

    def refuse(self, w, h, told):
        self.assertEqual(many(w, h, told), [-1], (w, h, told))
        for k in (0, 1, 1368, LARGEST):
            self.assertEqual(first(w, h, k, told), [-1], (w, h, k, told))
        for c, d in ((0, 0), (0, 1), (1, 0), (8, 3), (LARGEST, 0)):
            self.assertEqual(beneath(w, h, c, d, told), [-1], (w, h, c, d, told))

    def test_along_out_of_range(self):
        for wrong in (0, 7, 8, 9, LARGEST):
            for other in (0, 1, 2, 3, 6, 7, LARGEST):
                for length in range(41):
                    self.refuse(wrong, other, [0] * length)
                    self.refuse(other, wrong, [2] * length)

    def test_above_nine_squares(self):
        for w, h in product(range(1, 7), repeat=2):
            if w * h > 9:
                for length in range(41):
                    self.refuse(w, h, [0] * length)
                    self.refuse(w, h, [1] * length)

    def test_too_few_and_too_many(self):
        for w, h in SHEETS:
            for length in range(41):
                if length != how_many_creases(w, h):
                    for crease in (0, 1, 2, 3, LARGEST):
                        self.refuse(w, h, [crease] * length)

    def test_above_two(self):
        for w, h in SHEETS:
            for at in range(how_many_creases(w, h)):
                for other in (0, 1, 2):
                    for wrong in (3, 4, 40, LARGEST):
                        told = [other] * how_many_creases(w, h)
                        told[at] = wrong
                        self.refuse(w, h, told)

    def test_before_none_that_fits(self):
        # No row has four mountains or four valleys around a corner: with a wrong number behind or among them it's -1.
        for crease in (1, 2):
            for told in ([crease] * 3, [crease] * 5, [crease] * 4 + [3], [crease] * 3 + [3], [LARGEST] + [crease] * 3):
                self.refuse(2, 2, told)

    def test_no_creases_that_may_be_told_are_refused(self):
        for w, h in SHEETS:
            for crease in (0, 1, 2):
                told = [crease] * how_many_creases(w, h)
                self.assertEqual(many(w, h, told)[0], 0, (w, h, crease))
                self.assertNotEqual(first(w, h, 0, told), [-1], (w, h, crease))
                self.assertEqual(first(w, h, LARGEST, told), [-2], (w, h, crease))
                self.assertEqual(beneath(w, h, 0, w * h - 1, told)[0], 0, (w, h, crease))


class NoSquare(unittest.TestCase):
    def test_each_alone_and_both(self):
        for w, h in SHEETS:
            squares = w * h
            for crease in (0, 1, 2):
                told = [crease] * how_many_creases(w, h)
                for wrong in (squares, squares + 1, squares + w, 10, 36, 40, 2 ** 31, LARGEST):
                    for right in range(squares):
                        self.assertEqual(beneath(w, h, wrong, right, told), [-1], (w, h, wrong, right))
                        self.assertEqual(beneath(w, h, right, wrong, told), [-1], (w, h, right, wrong))
                    self.assertEqual(beneath(w, h, wrong, wrong, told), [-1], (w, h, wrong))
                    self.assertEqual(beneath(w, h, wrong, squares, told), [-1], (w, h, wrong))

    def test_no_square_and_no_sheet(self):
        for w, h in ((0, 0), (0, 1), (7, 1), (1, 7), (2, 5), (6, 6), (LARGEST, LARGEST)):
            for c, d in product((0, 1, 9, 40, LARGEST), repeat=2):
                for length in (0, 6, 13, 40):
                    self.assertEqual(beneath(w, h, c, d, [0] * length), [-1], (w, h, c, d, length))

    def test_every_square_is_taken(self):
        for w, h in SHEETS:
            for c, d in product(range(w * h), repeat=2):
                self.assertEqual(beneath(w, h, c, d, [0] * how_many_creases(w, h))[0], 0, (w, h, c, d))


def numbered(w, h, row):
    """What number is to answer for a row that is each square of the sheet once."""
    rows = rows_that_can_be(w, h)
    return [0, rows.index(tuple(row))] if tuple(row) in rows else [-2]


if __name__ == "__main__":
    unittest.main()
