"""Histories of calls in one line, held against the document's words written a second time."""

import itertools
import unittest

from asking import MOST, VIEW, add, ask, below, check, check_price, cost, count, drop, least, line_of, road
from making import some_calls
from words import expected

KEEPING = (0, 1, 2, 3, 4)
ALL_NINE = (0, 0, 0, 1, 2, 3, 4, 5, 6, 7, 8)
FILLING = (0, 0, 0, 0, 0, 2, 5, 6, 7, 8)
MOVING = (0, 0, 0, 1, 1, 2, 5, 6)
CHECKING = (0, 0, 7, 7, 8, 8)


class Histories(unittest.TestCase):
    def check(self, calls):
        self.assertEqual(ask(*calls), expected(calls), calls)

    def test_all_short_ones(self):
        few = (add(0, 1, 2), add(6, 1, 2), drop(0), drop(1), cost(0, 3), cost(1, 1000001), road(0), count())
        for length in range(1, 5):
            for calls in itertools.product(few, repeat=length):
                self.check(list(calls))

    def test_all_short_ones_that_tell_means(self):
        few = (add(0, 1, 2), add(1, 0, -1), add(0, 0, 1), drop(0), cost(1, -2), least(), below(1, 2),
               check([0, 1], 1, 2), check_price([0, 2, 0, 0, 0, 0], 1, 1))
        for length in range(1, 5):
            for calls in itertools.product(few, repeat=length):
                self.check([*calls, least(), below(1, 1)])

    def test_many_of_60_calls_on_the_roads_alone(self):
        # Many adds fill all ten places, many drops leave gaps between them.
        for kinds in (KEEPING, (0, 0, 0, 0, 1, 2, 3, 4), (0, 0, 0, 1, 1), (0, 0, 2, 3)):
            for seed in range(500):
                self.check(some_calls(seed, kinds))

    def test_many_of_60_calls_of_all_kinds(self):
        seen = {}
        for place, kinds in enumerate((ALL_NINE, FILLING, MOVING, CHECKING)):
            for seed in range(300):
                calls = some_calls(1000 * place + seed, kinds)
                self.check(calls)
                for call, answer in zip(calls, ask(*calls)):
                    mark = (call[0], answer[0])
                    seen[mark] = seen.get(mark, 0) + 1
        self.check_variety(seen)

    def check_variety(self, seen):
        """The many lines are worth something only if they have what the words make a difference of."""
        for mark in [(0, e) for e in range(10)] + [(0, -1), (0, -2), (1, 0), (1, -1), (1, -3), (4, 10)]:
            self.assertGreater(seen.get(mark, 0), 20, mark)
        for mark in [(5, size) for size in range(7)] + [(6, size) for size in range(-1, 7)]:
            self.assertGreater(seen.get(mark, 0), 20, mark)
        for mark in [(kind, answer) for kind in (7, 8) for answer in (-1, 0, 1)]:
            self.assertGreater(seen.get(mark, 0), 100, mark)

    def test_many_with_all_told_at_the_end(self):
        for seed in range(300):
            calls = some_calls(seed, (0, 0, 0, 0, 1, 2), most=1 + seed % 47)
            self.check([*calls, *VIEW, least(), below(seed % 7 - 3, 1 + seed % 3)])

    def test_800_numbers(self):
        ring_adds = [add(town, (town + 1) % 6, town) for town in range(6)]
        front = [*ring_adds, least(), check([3, 4, 5, 0, 1, 2], 5, 2)]
        behind = [below(5, 2), below(6, 2), least(), count()]
        for middle in (lambda size: check([n % 6 for n in range(size)], 9, 1),
                       lambda size: check([MOST] * size, 9, 1),
                       lambda size: check_price([-MOST] * size, -9, 1)):
            calls = [*front, middle(700), *behind]
            rest = 800 - len(line_of(calls))
            calls = [*calls, check([0] * (rest - 4), 1, 1)]
            self.assertEqual(len(line_of(calls)), 800)
            self.check(calls)
            self.assertEqual(ask(*calls)[len(front):][0], [0])

    def test_60_calls_and_800_numbers(self):
        calls = [*[add(town, (town + 1) % 6, -town) for town in range(6)], *[least()] * 20, *[below(-5, 2)] * 20]
        calls += [check([5, 0, 1, 2, 3, 4], -5, 2)] * 13
        calls.append(check_price([0] * (800 - len(line_of(calls)) - 4), 0, 1))
        self.assertEqual((len(calls), len(line_of(calls))), (60, 800))
        self.check(calls)

    def test_one_written_out(self):
        calls = [count(), add(0, 1, 5), add(1, 0, -5), add(2, 2, 0), drop(1), road(1), add(3, 5, 1000000),
                 road(1), cost(1, -1000000), road(1), drop(10), cost(9, 1), add(0, 6, 0), count()]
        self.assertEqual(ask(*calls), [[0], [0], [1], [2], [0], [-3], [1], [3, 5, 1000000], [0],
                                       [3, 5, -1000000], [-1], [-3], [-1], [3]])

    def test_one_of_all_kinds_written_out(self):
        calls = [least(), add(0, 1, 5), add(1, 2, 4), least(), below(9, 2), add(2, 0, 1), least(), below(10, 3),
                 below(11, 3), check([1, 2, 0], 10, 3), check_price([-7, -2, 0, 0, 0, 0], 10, 3), add(2, 1, 2),
                 least(), drop(3), cost(2, -9), least(), below(0, 0), count()]
        self.assertEqual(ask(*calls), [
            [0, 0, 0, 0, 0, 0, 0], [0], [1], [0, 0, 1, 2, 0, 0, 0], [0, 0, 0, -1, 0, 0, 0], [2],
            [3, 10, 3, 0, 1, 2, -7, -2, 0, 0, 0, 0], [0, -7, -2, 0, 0, 0, 0], [3, 0, 1, 2], [1], [1], [3],
            [2, 3, 1, 1, 3, -2, -1, 0, 0, 0, 0], [0], [0], [3, 0, 1, 0, 1, 2, -9, -4, 0, 0, 0, 0], [-1], [3]])


if __name__ == "__main__":
    unittest.main()
