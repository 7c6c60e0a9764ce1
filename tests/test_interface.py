"""The form of what is handed in and given back, and what a call of answers leaves alone."""

import builtins
import contextlib
import inspect
import io
import sys
import unittest
from unittest import mock

from asking import (MOST, VIEW, WRONG_MEANS, add, adds, ask, below, check, check_price, cost, count, drop, full, least,
                    line_of, road)
from meanring.roads import answers

LONG = [*full(), add(0, 0, 0), drop(3), drop(3), cost(4, 8), cost(3, 8), add(1, 1, -9), *VIEW, *VIEW, *VIEW, road(10)]
# Ten roads, six of them a round, and long rows.
SIX = [(town, (town + 1) % 6, 7 * town) for town in range(6)]
MEANS = [*adds(*SIX), *full()[:4], least(), below(9, 2), below(-9, 2), check([2, 3, 4, 5, 0, 1], 35, 2),
         check([2, 3, 4, 5, 0, 1] * 100, 35, 2), check([], 0, 1), least(), check_price([3, 1, 4, -1, -5, 9], -100, 1),
         check_price([-4] * 70, 0, 1), drop(2), least(), below(0, 1), count()]
REFUSED = [add(6, 0, 0), add(0, MOST, 0), add(0, 0, -MOST), drop(0), drop(MOST), cost(0, 0), cost(0, MOST), road(9)]


class Untouched(list):
    """A list that fails if anything would change it, for a while too."""

    def refuse(self, *given, **named):
        raise AssertionError("what is handed in was changed")

    append = extend = insert = pop = remove = clear = sort = reverse = refuse
    __setitem__ = __delitem__ = __iadd__ = __imul__ = refuse


class Form(unittest.TestCase):
    def test_written_out(self):
        self.assertEqual(answers([4]), [1, 0])
        self.assertEqual(answers([0, 1, 2, -3]), [1, 0])
        self.assertEqual(answers([0, 1, 2, -3, 3, 0, 4]), [1, 0, 3, 1, 2, -3, 1, 1])
        self.assertEqual(answers([1, 0]), [1, -3])
        self.assertEqual(answers([2, 10, 0, 3, 10]), [1, -1, 1, -1])
        self.assertEqual(answers([0, 4, 4, 4, 2, 0, 4, 3, 0, 1, 0, 4]), [1, 0, 1, 0, 3, 4, 4, 4, 1, 0, 1, 0])

    def test_means_written_out(self):
        self.assertEqual(answers([5]), [7, 0, 0, 0, 0, 0, 0, 0])
        self.assertEqual(answers([6, 3, 2]), [7, 0, 0, 0, 0, 0, 0, 0])
        self.assertEqual(answers([0, 1, 3, 4, 5]), [1, 0, 7, 0, 0, 0, 0, 1, 0, 0])
        self.assertEqual(answers([0, 2, 2, 4, 5]), [1, 0, 10, 1, 4, 1, 0, 0, 0, 0, 0, 0, 0])
        self.assertEqual(answers([0, 2, 2, 4, 6, 9, 2]), [1, 0, 2, 1, 0])
        self.assertEqual(answers([7, 3, 2, 0]), [1, 0])
        self.assertEqual(answers([7, 3, 0, 0, 4]), [1, -1, 1, 0])
        self.assertEqual(answers([8, 3, 2, 0, 4]), [1, 0, 1, 0])
        self.assertEqual(answers([8, 3, 2, 6, 5, 5, 5, 5, 5, 5, 4]), [1, 1, 1, 0])
        self.assertEqual(answers([8, 3, 2, 7, 5, 5, 5, 5, 5, 5, 4]), [1, 0])

    def test_num_and_den_stand_ahead_of_the_row(self):
        # The round of the roads 1 and 0 has the mean 5 / 2: 5 is num, 2 den, and 2 how many numbers the ring has.
        roads = [0, 0, 1, 2, 0, 1, 0, 3]
        self.assertEqual(answers([*roads, 7, 5, 2, 2, 1, 0])[4:], [1, 1])
        self.assertEqual(answers([*roads, 7, 4, 2, 2, 1, 0, 4])[4:], [1, 0, 1, 2])
        self.assertEqual(answers([*roads, 8, 5, 2, 6, 0, -1, 0, 0, 0, 0])[4:], [1, 1])
        self.assertEqual(answers([*roads, 8, 5, 2, 6, 0, 1, 0, 0, 0, 0, 4])[4:], [1, 0, 1, 2])

    def test_what_looks_like_a_call_within_a_row(self):
        self.assertEqual(answers([7, 0, 1, 4, 0, 2, 2, 4, 4]), [1, 0, 1, 0])
        self.assertEqual(answers([8, 0, 1, 4, 0, 2, 2, 4, 4]), [1, 0, 1, 0])
        self.assertEqual(answers([7, 0, 0, 4, 0, 2, 2, 4, 4]), [1, -1, 1, 0])

    def test_a_refusal_is_its_number_alone(self):
        self.assertEqual(answers(line_of(REFUSED)), [1, -1, 1, -1, 1, -1, 1, -3, 1, -1, 1, -3, 1, -1, 1, -3])
        for num, den in WRONG_MEANS:
            calls = [below(num, den), check([], num, den), check([0] * 9, num, den), check_price([0] * 6, num, den)]
            self.assertEqual(answers(line_of(calls)), [1, -1] * 4)

    def test_a_list_of_ints(self):
        for calls in (LONG, MEANS):
            told = answers(line_of(calls))
            self.assertIs(type(told), list)
            self.assertEqual({type(number) for number in told}, {int})

    def test_one_argument_called_calls(self):
        self.assertEqual(list(inspect.signature(answers).parameters), ["calls"])
        self.assertEqual(answers(calls=[4]), [1, 0])

    def test_as_many_calls_as_there_may_be(self):
        self.assertEqual(answers([4] * 60), [1, 0] * 60)
        self.assertEqual(answers([0, 5, 5, 1] * 60)[-2:], [1, -2])

    def test_the_largest_numbers(self):
        calls = [add(MOST, MOST, MOST), add(0, 0, MOST), add(0, 0, -MOST), drop(MOST), cost(MOST, -MOST), road(MOST)]
        self.assertEqual(ask(*calls), [[-1]] * 6)
        calls = [below(MOST, 1), below(0, -MOST), check([MOST] * 3, MOST, MOST), check_price([-MOST] * 6, -MOST, MOST)]
        self.assertEqual(ask(*calls), [[-1]] * 4)
        self.assertEqual(ask(check([MOST] * 700, 0, 1)), [[0]])
        self.assertEqual(ask(check_price([-MOST, MOST] * 3, 0, 1)), [[1]])


class LeftAlone(unittest.TestCase):
    def test_what_is_handed_in(self):
        for calls in (LONG, MEANS, REFUSED, [count()]):
            line = line_of(calls)
            answers(line)
            self.assertEqual(line, line_of(calls))
            self.assertEqual(answers(Untouched(line)), answers(line))

    def test_the_same_list_twice(self):
        for calls in (LONG, MEANS, REFUSED, full(), [add(1, 2, 3), road(0), count()], [least()]):
            line = line_of(calls)
            self.assertEqual(answers(line), answers(line))

    def test_nothing_is_kept(self):
        fresh = [[-3]] * 10 + [[0]]
        self.assertEqual(ask(*VIEW), fresh)
        for calls in (full(), LONG, MEANS, [add(0, 0, 0)], REFUSED):
            ask(*calls)
            self.assertEqual(ask(*VIEW), fresh)
            self.assertEqual(ask(least(), below(1, 1)), [[0] * 7] * 2)

    def test_what_was_given_back_is_the_callers(self):
        for calls in (LONG, MEANS):
            line = line_of(calls)
            told = answers(line)
            kept = list(told)
            told.clear()
            self.assertEqual(answers(line), kept)

    def test_nothing_is_printed_or_read(self):
        shown = io.StringIO()
        wrong = AssertionError("something was read")
        with contextlib.redirect_stdout(shown), contextlib.redirect_stderr(shown), \
                mock.patch.object(sys, "stdin", None), mock.patch.object(builtins, "open", side_effect=wrong):
            answers(line_of(LONG))
            answers(line_of(MEANS))
        self.assertEqual(shown.getvalue(), "")

    def test_by_loops(self):
        # Fewer calls within one another than the line has calls, or than its rows have numbers.
        for calls in (LONG, MEANS, [check([0] * 700, 0, 1)], [check_price([0] * 700, 0, 1)]):
            line = line_of(calls)
            wanted = answers(line)
            before = sys.getrecursionlimit()
            sys.setrecursionlimit(len(inspect.stack(0)) + 20)
            try:
                told = answers(line)
            finally:
                sys.setrecursionlimit(before)
            self.assertEqual(told, wanted)


if __name__ == "__main__":
    unittest.main()
