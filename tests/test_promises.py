"""The document's points 2 and 3 at all that is told of every sheet; point 1 is held in test_rows."""

import unittest

from onesquare.packets import beneath, creases, first, judge, kth, many, number, pattern, patterns
from tests.plain_reading import SHEETS, corners, how_many_creases
from tests.test_count_and_kth import rows_told


class TheTopPutToTheBottom(unittest.TestCase):
    def test_a_row_told_can_be_still(self):
        for w, h in SHEETS:
            for row in rows_told(w, h):
                self.assertEqual(judge(w, h, list(row[-1:] + row[:-1])), [0], (w, h, row))

    def test_the_row_is_told_too(self):
        for w, h in SHEETS:
            rows = set(rows_told(w, h))
            self.assertEqual({row[-1:] + row[:-1] for row in rows}, rows, (w, h))


class TheOtherWayRound(unittest.TestCase):
    def test_a_row_told_can_be_still_with_mountains_for_valleys(self):
        for w, h in SHEETS:
            for row in rows_told(w, h):
                answer = creases(w, h, list(row))
                swapped = answer[:2] + [3 - crease for crease in answer[2:]]
                self.assertEqual(creases(w, h, list(row[::-1])), swapped, (w, h, row))

    def test_the_row_is_told_too(self):
        for w, h in SHEETS:
            rows = set(rows_told(w, h))
            self.assertEqual({row[::-1] for row in rows}, rows, (w, h))

    def test_patterns_with_mountains_for_valleys_are_told_the_other_way_round(self):
        for w, h in SHEETS:
            last = patterns(w, h)[1] - 1
            for k in range(0, last + 1, 1 if w * h <= 8 else 5):
                swapped = [3 - crease for crease in pattern(w, h, k)[2:]]
                self.assertEqual(pattern(w, h, last - k)[2:], swapped, (w, h, k))


class AroundEachCorner(unittest.TestCase):
    def hold(self, w, h, told):
        for four in corners(w, h, told):
            self.assertIn((four.count(1), four.count(2)), ((1, 3), (3, 1)), (w, h, told))

    def test_how_many_corners(self):
        for w, h in SHEETS:
            self.assertEqual(len(corners(w, h, [1] * how_many_creases(w, h))), (w - 1) * (h - 1), (w, h))

    def test_at_every_row_told(self):
        for w, h in SHEETS:
            for row in rows_told(w, h):
                self.hold(w, h, creases(w, h, list(row))[2:])

    def test_at_every_pattern_told(self):
        for w, h in SHEETS:
            for k in range(patterns(w, h)[1]):
                self.hold(w, h, pattern(w, h, k)[2:])


class AllCallsTogether(unittest.TestCase):
    """Of each pattern told: its rows are told by first, and are just those that the other calls speak of."""

    def test_the_patterns_share_out_the_rows(self):
        for w, h in SHEETS:
            if w * h <= 8:
                rows = []
                for k in range(patterns(w, h)[1]):
                    told = pattern(w, h, k)[2:]
                    fitting = [tuple(first(w, h, j, told)[2:]) for j in range(many(w, h, told)[1])]
                    self.assertGreater(len(fitting), 0, (w, h, told))
                    rows.extend(fitting)
                self.assertEqual(sorted(rows), rows_told(w, h), (w, h))

    def test_a_row_through_all_calls(self):
        for w, h in SHEETS:
            for row in map(list, rows_told(w, h)[:: 3 if w * h <= 6 else 131]):
                self.assertEqual(judge(w, h, row), [0], (w, h, row))
                self.assertEqual(kth(w, h, number(w, h, row)[1])[2:], row, (w, h))
                told = creases(w, h, row)[2:]
                fitting = [first(w, h, k, told)[2:] for k in range(many(w, h, told)[1])]
                self.assertIn(row, fitting, (w, h))
                for c, d in zip(row, row[1:]):
                    below = sum(fit.index(c) < fit.index(d) for fit in fitting)
                    self.assertEqual(beneath(w, h, c, d, told), [0, below], (w, h, c, d, told))


if __name__ == "__main__":
    unittest.main()
