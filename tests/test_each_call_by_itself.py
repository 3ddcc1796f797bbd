"""What is handed in stays as it was, and nothing is kept from one call to the next."""

import contextlib
import inspect
import io
import unittest

import onesquare.packets
from onesquare.packets import creases, judge

LARGEST = 4294967295
CALLS = (judge, creases)
HANDED_IN = (
    (1, 1, [0]),
    (6, 1, [0, 1, 2, 3, 4, 5]), (1, 6, [0, 1, 2, 4, 3, 5]),
    (2, 2, [0, 1, 3, 2]), (2, 2, [0, 1, 2, 3]),
    (3, 3, [0, 1, 2, 5, 4, 3, 6, 7, 8]), (3, 3, [8, 7, 6, 5, 4, 3, 2, 1, 0]),
    (2, 4, [0, 1, 3, 2, 4, 5, 7, 6]), (4, 2, [0, 1, 2, 3, 7, 6, 5, 4]),
    (2, 1, []), (2, 1, [0, 0]), (2, 1, [LARGEST, 0]), (2, 2, list(range(40))),
    (0, 0, []), (LARGEST, LARGEST, [0]), (5, 2, list(range(10))),
)


class Unchanging(list):
    """A list that can be read alone: even a change that is taken back is seen."""

    def changed(self, *args, **kwargs):
        raise AssertionError("what was handed in is changed")

    append = extend = insert = remove = pop = clear = sort = reverse = changed
    __setitem__ = __delitem__ = __iadd__ = __imul__ = changed


class EachCallByItself(unittest.TestCase):
    def test_the_row_is_not_changed(self):
        for call in CALLS:
            for w, h, row in HANDED_IN:
                handed = list(row)
                call(w, h, handed)
                self.assertEqual(handed, row)

    def test_the_row_is_not_changed_for_a_while_either(self):
        for call in CALLS:
            for w, h, row in HANDED_IN:
                self.assertEqual(call(w, h, Unchanging(row)), call(w, h, list(row)))

    def test_a_second_call_answers_as_the_first(self):
        firsts = [call(w, h, list(row)) for call in CALLS for w, h, row in HANDED_IN]
        seconds = [call(w, h, list(row)) for call in CALLS for w, h, row in HANDED_IN]
        self.assertEqual(firsts, seconds)

    def test_an_answer_changed_by_its_reader_is_not_given_again(self):
        for call in CALLS:
            for w, h, row in HANDED_IN:
                answer = call(w, h, list(row))
                before = list(answer)
                answer.append(99)
                answer[0] = 99
                self.assertEqual(call(w, h, list(row)), before)

    def test_the_row_itself_is_not_given_back(self):
        for call in CALLS:
            for w, h, row in HANDED_IN:
                handed = list(row)
                self.assertIsNot(call(w, h, handed), handed)

    def test_answers_are_lists_of_whole_numbers(self):
        for call in CALLS:
            for w, h, row in HANDED_IN:
                answer = call(w, h, list(row))
                self.assertIs(type(answer), list)
                self.assertEqual({type(number) for number in answer}, {int})

    def test_nothing_is_printed(self):
        out, err = io.StringIO(), io.StringIO()
        with contextlib.redirect_stdout(out), contextlib.redirect_stderr(err):
            for call in CALLS:
                for w, h, row in HANDED_IN:
                    call(w, h, list(row))
        self.assertEqual(out.getvalue() + err.getvalue(), "")

    def test_names_and_arguments(self):
        for name in ("judge", "creases"):
            self.assertEqual(list(inspect.signature(getattr(onesquare.packets, name)).parameters), ["w", "h", "row"])
        self.assertEqual(judge(w=2, h=1, row=[0, 1]), [0])
        self.assertEqual(creases(w=2, h=1, row=[0, 1]), [0, 1, 2])


if __name__ == "__main__":
    unittest.main()
