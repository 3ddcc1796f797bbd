"""judge and creases at rows that are each square once, and that just those that can be are told."""

import unittest
from itertools import permutations

from onesquare.packets import creases, judge
from tests.plain_reading import SHEETS, Sheet, creased, judged
from tests.test_count_and_kth import rows_told

# How many foldings a strip of n stamps and a map of w by h have, as is known from elsewhere.
KNOWN_COUNTS = {
    (1, 1): 1, (2, 1): 2, (3, 1): 6, (4, 1): 16, (5, 1): 50, (6, 1): 144,
    (2, 2): 8, (2, 3): 60, (2, 4): 320, (3, 3): 1368,
}


def known_count(w, h):
    return KNOWN_COUNTS.get((w, h)) or KNOWN_COUNTS[(h, w)]


class JudgeByHand(unittest.TestCase):
    def test_rows_that_can_be(self):
        for w, h, row in (
            (1, 1, [0]),
            (2, 1, [0, 1]), (1, 2, [1, 0]),
            (3, 1, [1, 0, 2]), (1, 3, [0, 2, 1]),
            (4, 1, [0, 3, 2, 1]), (1, 4, [1, 0, 3, 2]),
            (6, 1, [0, 1, 2, 3, 4, 5]), (1, 6, [5, 4, 3, 2, 1, 0]),
            (2, 2, [0, 1, 3, 2]), (2, 2, [1, 3, 2, 0]),
            (3, 3, [0, 1, 2, 5, 4, 3, 6, 7, 8]),
            (2, 4, [0, 1, 3, 2, 4, 5, 7, 6]), (4, 2, [0, 1, 2, 3, 7, 6, 5, 4]),
        ):
            self.assertEqual(judge(w, h, row), [0], (w, h, row))

    def test_rows_that_cannot_be(self):
        for w, h, row, square in (
            (4, 1, [0, 2, 1, 3], 0), (1, 4, [0, 2, 1, 3], 0),
            (5, 1, [0, 1, 3, 2, 4], 1), (1, 5, [0, 1, 3, 2, 4], 1),
            (6, 1, [0, 1, 2, 4, 3, 5], 2), (1, 6, [0, 1, 2, 4, 3, 5], 2),
            (2, 2, [0, 1, 2, 3], 0), (2, 2, [0, 3, 1, 2], 0),
            (3, 2, [0, 3, 4, 2, 1, 5], 1),
            (3, 3, [0, 1, 2, 3, 4, 5, 6, 7, 8], 0),
            (2, 4, [0, 1, 2, 3, 4, 5, 6, 7], 0), (4, 2, [0, 1, 2, 3, 4, 5, 6, 7], 0),
        ):
            self.assertEqual(judge(w, h, row), [-5, square], (w, h, row))
            self.assertEqual(creases(w, h, row), [-5, square], (w, h, row))

    def test_two_squares_apart_hold_nothing(self):
        # 0 and 2 of a strip of 3 turn at different sides, so nothing can go through there.
        for row in permutations(range(3)):
            self.assertEqual(judge(3, 1, list(row)), [0])
            self.assertEqual(judge(1, 3, list(row)), [0])


class CreasesByHand(unittest.TestCase):
    def test_one_square_has_no_crease(self):
        self.assertEqual(creases(1, 1, [0]), [0, 0])

    def test_valley_and_mountain(self):
        self.assertEqual(creases(2, 1, [0, 1]), [0, 1, 2])
        self.assertEqual(creases(2, 1, [1, 0]), [0, 1, 1])
        self.assertEqual(creases(1, 2, [0, 1]), [0, 1, 2])
        self.assertEqual(creases(1, 2, [1, 0]), [0, 1, 1])

    def test_strips(self):
        self.assertEqual(creases(3, 1, [0, 1, 2]), [0, 2, 2, 1])
        self.assertEqual(creases(1, 3, [0, 2, 1]), [0, 2, 2, 2])
        self.assertEqual(creases(6, 1, [0, 1, 2, 3, 4, 5]), [0, 5, 2, 1, 2, 1, 2])
        self.assertEqual(creases(1, 6, [5, 4, 3, 2, 1, 0]), [0, 5, 1, 2, 1, 2, 1])

    def test_to_the_right_first_then_above(self):
        self.assertEqual(creases(2, 2, [0, 1, 3, 2]), [0, 4, 2, 2, 2, 1])
        self.assertEqual(creases(2, 2, [0, 2, 3, 1]), [0, 4, 2, 1, 2, 2])
        self.assertEqual(creases(4, 2, [0, 1, 2, 3, 7, 6, 5, 4]), [0, 10, 2, 1, 2, 2, 1, 2, 2, 1, 2, 1])
        self.assertEqual(
            creases(3, 3, [0, 1, 2, 5, 4, 3, 6, 7, 8]), [0, 12, 2, 1, 2, 1, 2, 1, 2, 1, 2, 1, 2, 1]
        )

    def test_how_many(self):
        for w, h in SHEETS:
            # Fan-folded up into a strip, then fan-folded across, a sheet can always be.
            row = [w * y + x for x in range(w) for y in (range(h) if x % 2 == 0 else reversed(range(h)))]
            answer = creases(w, h, row)
            self.assertEqual(answer[:2], [0, (w - 1) * h + w * (h - 1)], (w, h))
            self.assertEqual(len(answer), 2 + answer[1], (w, h))


class EveryRow(unittest.TestCase):
    def hold(self, w, h):
        sheet = Sheet(w, h)
        can_be = []
        for row in map(list, permutations(range(w * h))):
            expected = judged(sheet, row)
            if judge(w, h, row) != expected:
                self.fail(f"judge({w}, {h}, {row}) is {judge(w, h, row)}, not {expected}")
            if expected == [0]:
                can_be.append(tuple(row))
                expected = creased(sheet, row)
            if creases(w, h, row) != expected:
                self.fail(f"creases({w}, {h}, {row}) is {creases(w, h, row)}, not {expected}")
        self.assertEqual(len(can_be), known_count(w, h), (w, h))
        # Rows told can be, and all that can be are told.
        self.assertEqual(can_be, rows_told(w, h), (w, h))

    def test_up_to_six_squares(self):
        for w, h in SHEETS:
            if w * h <= 6:
                self.hold(w, h)

    def test_two_by_four(self):
        self.hold(2, 4)

    def test_four_by_two(self):
        self.hold(4, 2)

    def test_three_by_three(self):
        self.hold(3, 3)

    def test_every_sheet_is_held(self):
        self.assertEqual([sheet for sheet in SHEETS if sheet[0] * sheet[1] > 6], [(2, 4), (3, 3), (4, 2)])


if __name__ == "__main__":
    unittest.main()
