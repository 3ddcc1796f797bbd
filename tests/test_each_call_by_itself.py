"""What is handed in stays as it was, and nothing is kept from one call to the next."""

import contextlib
import inspect
import io
import unittest

import onesquare.packets
from onesquare.packets import beneath, count, creases, first, judge, kth, many, number, pattern, patterns

LARGEST = 4294967295
SHEETS = ((1, 1), (6, 1), (1, 6), (2, 2), (3, 3), (2, 4), (4, 2), (0, 0), (0, 1), (7, 1), (5, 2), (LARGEST, LARGEST))
ROWS = (
    (1, 1, [0]),
    (6, 1, [0, 1, 2, 3, 4, 5]), (1, 6, [0, 1, 2, 4, 3, 5]),
    (2, 2, [0, 1, 3, 2]), (2, 2, [0, 1, 2, 3]),
    (3, 3, [0, 1, 2, 5, 4, 3, 6, 7, 8]), (3, 3, [8, 7, 6, 5, 4, 3, 2, 1, 0]),
    (2, 4, [0, 1, 3, 2, 4, 5, 7, 6]), (4, 2, [0, 1, 2, 3, 7, 6, 5, 4]),
    (2, 1, []), (2, 1, [0, 0]), (2, 1, [LARGEST, 0]), (2, 2, list(range(40))),
    (0, 0, []), (LARGEST, LARGEST, [0]), (5, 2, list(range(10))),
)
TOLD = (
    (1, 1, []), (2, 1, [0]), (1, 2, [2]), (6, 1, [0, 1, 2, 0, 0]), (1, 6, [1, 1, 1, 1, 1]),
    (2, 2, [0, 0, 0, 0]), (2, 2, [1, 2, 2, 2]), (2, 2, [1, 1, 2, 2]),
    (3, 3, [0, 1, 2, 0, 0, 0, 0, 0, 1, 0, 0, 0]), (2, 4, [2, 0, 0, 0, 0, 1, 0, 0, 0, 0]), (4, 2, [0] * 10),
    (2, 1, []), (2, 1, [3]), (2, 1, [LARGEST]), (2, 1, [0, 0]), (2, 2, [0] * 40), (2, 2, [0, 1, 2, 3]),
    (0, 0, []), (LARGEST, LARGEST, [0]), (5, 2, [0] * 13),
)
KS = (0, 1, 7, 143, 1367, 1368, LARGEST)
PAIRS = ((0, 0), (0, 1), (1, 0), (3, 2), (4, 8), (0, LARGEST), (LARGEST, 0))
CALLS = (
    [(call, handed) for call in (judge, creases, number) for handed in ROWS]
    + [(call, sheet) for call in (count, patterns) for sheet in SHEETS]
    + [(call, (w, h, k)) for call in (kth, pattern) for w, h in SHEETS for k in KS]
    + [(many, handed) for handed in TOLD]
    + [(first, (w, h, k, told)) for w, h, told in TOLD for k in KS]
    + [(beneath, (w, h, c, d, told)) for w, h, told in TOLD for c, d in PAIRS]
)


class Unchanging(list):
    """A list that can be read alone: even a change that is taken back is seen."""

    def changed(self, *args, **kwargs):
        raise AssertionError("what was handed in is changed")

    append = extend = insert = remove = pop = clear = sort = reverse = changed
    __setitem__ = __delitem__ = __iadd__ = __imul__ = changed


def copied(handed, kind=list):
    return [kind(value) if isinstance(value, list) else value for value in handed]


class EachCallByItself(unittest.TestCase):
    def test_what_is_handed_in_is_not_changed(self):
        for call, handed in CALLS:
            values = copied(handed)
            call(*values)
            self.assertEqual(values, list(handed), call)

    def test_what_is_handed_in_is_not_changed_for_a_while_either(self):
        for call, handed in CALLS:
            self.assertEqual(call(*copied(handed, Unchanging)), call(*copied(handed)))

    def test_a_second_call_answers_as_the_first(self):
        for call, handed in CALLS:
            self.assertEqual(call(*copied(handed)), call(*copied(handed)), (call, handed))

    def test_a_second_call_with_others_between_answers_as_the_first(self):
        firsts = [call(*copied(handed)) for call, handed in CALLS]
        seconds = [call(*copied(handed)) for call, handed in CALLS]
        backwards = [call(*copied(handed)) for call, handed in reversed(CALLS)]
        self.assertEqual(firsts, seconds)
        self.assertEqual(firsts, backwards[::-1])

    def test_an_answer_changed_by_its_reader_is_not_given_again(self):
        for call, handed in CALLS:
            answer = call(*copied(handed))
            before = list(answer)
            answer.append(99)
            answer[0] = 99
            self.assertEqual(call(*copied(handed)), before, (call, handed))

    def test_the_list_itself_is_not_given_back(self):
        for call, handed in CALLS:
            values = copied(handed)
            answer = call(*values)
            self.assertFalse(any(answer is value for value in values), (call, handed))

    def test_answers_are_lists_of_whole_numbers(self):
        for call, handed in CALLS:
            answer = call(*copied(handed))
            self.assertIs(type(answer), list)
            self.assertEqual({type(number) for number in answer}, {int})

    def test_nothing_is_printed(self):
        out, err = io.StringIO(), io.StringIO()
        with contextlib.redirect_stdout(out), contextlib.redirect_stderr(err):
            for call, handed in CALLS:
                call(*copied(handed))
        self.assertEqual(out.getvalue() + err.getvalue(), "")

    def test_names_and_arguments(self):
        for name, arguments in (
            ("judge", ["w", "h", "row"]), ("creases", ["w", "h", "row"]),
            ("count", ["w", "h"]), ("kth", ["w", "h", "k"]),
            ("number", ["w", "h", "row"]), ("many", ["w", "h", "creases"]),
            ("first", ["w", "h", "k", "creases"]), ("patterns", ["w", "h"]),
            ("pattern", ["w", "h", "k"]), ("beneath", ["w", "h", "c", "d", "creases"]),
        ):
            self.assertEqual(list(inspect.signature(getattr(onesquare.packets, name)).parameters), arguments)
        self.assertEqual(judge(w=2, h=1, row=[0, 1]), [0])
        self.assertEqual(creases(w=2, h=1, row=[0, 1]), [0, 1, 2])
        self.assertEqual(count(w=2, h=1), [0, 2])
        self.assertEqual(kth(w=2, h=1, k=1), [0, 2, 1, 0])
        self.assertEqual(number(w=2, h=1, row=[1, 0]), [0, 1])
        self.assertEqual(many(w=2, h=1, creases=[2]), [0, 1])
        self.assertEqual(first(w=2, h=1, k=0, creases=[1]), [0, 2, 1, 0])
        self.assertEqual(patterns(w=2, h=1), [0, 2])
        self.assertEqual(pattern(w=2, h=1, k=1), [0, 1, 2])
        self.assertEqual(beneath(w=2, h=1, c=0, d=1, creases=[2]), [0, 1])


if __name__ == "__main__":
    unittest.main()
