"""count and kth on every sheet that may be: all rows that can be are told, each once and in order."""

import unittest
from functools import lru_cache
from itertools import count as from_nought_on
from itertools import takewhile

from onesquare.packets import count, kth
from tests.plain_reading import SHEETS, rows_that_can_be

LARGEST = 4294967295


@lru_cache(maxsize=None)
def kth_answers(w, h):
    """What kth answers from k = 0 on, up to the first -2."""
    return tuple(takewhile(lambda answer: answer != [-2], (kth(w, h, k) for k in from_nought_on())))


def rows_told(w, h):
    """The rows that kth tells, as tuples, in its order."""
    return [tuple(answer[2:]) for answer in kth_answers(w, h)]


class Count(unittest.TestCase):
    def test_by_hand(self):
        self.assertEqual(count(1, 1), [0, 1])
        self.assertEqual(count(2, 1), [0, 2])
        self.assertEqual(count(1, 2), [0, 2])
        self.assertEqual(count(3, 1), [0, 6])
        self.assertEqual(count(1, 4), [0, 16])
        self.assertEqual(count(2, 2), [0, 8])

    def test_every_sheet(self):
        for w, h in SHEETS:
            self.assertEqual(count(w, h), [0, len(rows_that_can_be(w, h))], (w, h))


class Kth(unittest.TestCase):
    def test_by_hand(self):
        self.assertEqual(kth(1, 1, 0), [0, 1, 0])
        self.assertEqual(kth(1, 1, 1), [-2])
        self.assertEqual(kth(2, 1, 0), [0, 2, 0, 1])
        self.assertEqual(kth(1, 2, 1), [0, 2, 1, 0])
        self.assertEqual(kth(2, 1, 2), [-2])
        self.assertEqual(kth(1, 3, 3), [0, 3, 1, 2, 0])
        self.assertEqual([kth(2, 2, k) for k in range(9)], [
            [0, 4, 0, 1, 3, 2], [0, 4, 0, 2, 3, 1],
            [0, 4, 1, 0, 2, 3], [0, 4, 1, 3, 2, 0],
            [0, 4, 2, 0, 1, 3], [0, 4, 2, 3, 1, 0],
            [0, 4, 3, 1, 0, 2], [0, 4, 3, 2, 0, 1],
            [-2],
        ])

    def test_just_the_rows_that_can_be_each_once_in_order(self):
        for w, h in SHEETS:
            expected = [[0, w * h] + list(row) for row in rows_that_can_be(w, h)]
            self.assertEqual(list(kth_answers(w, h)), expected, (w, h))

    def test_none_behind_the_last(self):
        for w, h in SHEETS:
            rows = len(rows_that_can_be(w, h))
            self.assertEqual(kth(w, h, rows - 1)[0], 0, (w, h))
            for k in list(range(rows, rows + 20)) + [2 * rows, 9 * rows, 10 ** 6, 2 ** 31, 2 ** 32 - 2, LARGEST]:
                self.assertEqual(kth(w, h, k), [-2], (w, h, k))


if __name__ == "__main__":
    unittest.main()
