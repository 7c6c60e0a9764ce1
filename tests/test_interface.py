"""The form of what is handed in and given back, and what a call of answers leaves alone."""

import builtins
import contextlib
import inspect
import io
import sys
import unittest
from unittest import mock

from asking import MOST, VIEW, add, ask, cost, count, drop, full, line_of, road
from meanring.roads import answers

LONG = [*full(), add(0, 0, 0), drop(3), drop(3), cost(4, 8), cost(3, 8), add(1, 1, -9), *VIEW, *VIEW, *VIEW, road(10)]
REFUSED = [add(6, 0, 0), add(0, MOST, 0), add(0, 0, -MOST), drop(0), drop(MOST), cost(0, 0), cost(0, MOST), road(9)]


class Untouched(list):
    """A list that fails if anything would change it, for a while too."""

    def refuse(self, *given, **named):
        raise AssertionError("what is handed in was changed")

    append = extend = insert = pop = remove = clear = sort = reverse = refuse
    __setitem__ = __delitem__ = __iadd__ = __imul__ = refuse


class Form(unittest.TestCase):
    def test_written_out(self):
        self.assertEqual(answers([4]), [1, 0])
        self.assertEqual(answers([0, 1, 2, -3]), [1, 0])
        self.assertEqual(answers([0, 1, 2, -3, 3, 0, 4]), [1, 0, 3, 1, 2, -3, 1, 1])
        self.assertEqual(answers([1, 0]), [1, -3])
        self.assertEqual(answers([2, 10, 0, 3, 10]), [1, -1, 1, -1])
        self.assertEqual(answers([0, 4, 4, 4, 2, 0, 4, 3, 0, 1, 0, 4]), [1, 0, 1, 0, 3, 4, 4, 4, 1, 0, 1, 0])

    def test_a_refusal_is_its_number_alone(self):
        self.assertEqual(answers(line_of(REFUSED)), [1, -1, 1, -1, 1, -1, 1, -3, 1, -1, 1, -3, 1, -1, 1, -3])

    def test_a_list_of_ints(self):
        told = answers(line_of(LONG))
        self.assertIs(type(told), list)
        self.assertEqual({type(number) for number in told}, {int})

    def test_one_argument_called_calls(self):
        self.assertEqual(list(inspect.signature(answers).parameters), ["calls"])
        self.assertEqual(answers(calls=[4]), [1, 0])

    def test_as_many_calls_as_there_may_be(self):
        self.assertEqual(answers([4] * 60), [1, 0] * 60)
        self.assertEqual(answers([0, 5, 5, 1] * 60)[-2:], [1, -2])

    def test_the_largest_numbers(self):
        calls = [add(MOST, MOST, MOST), add(0, 0, MOST), add(0, 0, -MOST), drop(MOST), cost(MOST, -MOST), road(MOST)]
        self.assertEqual(ask(*calls), [[-1]] * 6)


class LeftAlone(unittest.TestCase):
    def test_what_is_handed_in(self):
        for calls in (LONG, REFUSED, [count()]):
            line = line_of(calls)
            answers(line)
            self.assertEqual(line, line_of(calls))
            self.assertEqual(answers(Untouched(line)), answers(line))

    def test_the_same_list_twice(self):
        for calls in (LONG, REFUSED, full(), [add(1, 2, 3), road(0), count()]):
            line = line_of(calls)
            self.assertEqual(answers(line), answers(line))

    def test_nothing_is_kept(self):
        fresh = [[-3]] * 10 + [[0]]
        self.assertEqual(ask(*VIEW), fresh)
        for calls in (full(), LONG, [add(0, 0, 0)], REFUSED):
            ask(*calls)
            self.assertEqual(ask(*VIEW), fresh)

    def test_what_was_given_back_is_the_callers(self):
        line = line_of(LONG)
        told = answers(line)
        kept = list(told)
        told.clear()
        self.assertEqual(answers(line), kept)

    def test_nothing_is_printed_or_read(self):
        shown = io.StringIO()
        wrong = AssertionError("something was read")
        with contextlib.redirect_stdout(shown), contextlib.redirect_stderr(shown), \
                mock.patch.object(sys, "stdin", None), mock.patch.object(builtins, "open", side_effect=wrong):
            answers(line_of(LONG))
        self.assertEqual(shown.getvalue(), "")

    def test_by_loops(self):
        # Fewer calls within one another than the line has calls.
        line = line_of(LONG)
        wanted = answers(line)
        before = sys.getrecursionlimit()
        sys.setrecursionlimit(len(inspect.stack(0)) + 20)
        try:
            told = answers(line)
        finally:
            sys.setrecursionlimit(before)
        self.assertEqual(told, wanted)


if __name__ == "__main__":
    unittest.main()
