"""Histories of calls in one line, held against the document's words written a second time."""

import itertools
import random
import unittest

from asking import MOST, VIEW, add, ask, cost, count, drop, road

NUMBERS = (0, 0, 1, 2, 3, 4, 5, 6, 7, 8, 9, 10, MOST)
TOWNS = (0, 0, 1, 2, 3, 4, 5, 5, 1, 2, 3, 4, 6, MOST)
COSTS = (0, 1, -1, 7, -12, 1000000, -1000000, 999999, 1000001, -1000001, MOST, -MOST)


def can_be(new):
    return new in range(-1000000, 1000001)


def expected_add(known, u, v, new):
    if max(u, v) > 5 or not can_be(new):
        return [-1]
    free = sorted(set(range(10)) - set(known))
    if not free:
        return [-2]
    known[free[0]] = [u, v, new]
    return [free[0]]


def expected(calls):
    known = {}
    rows = []
    for call in calls:
        kind, given = call[0], call[1:]
        if kind == 0:
            rows.append(expected_add(known, *given))
        elif kind == 4:
            rows.append([len(known)])
        elif given[0] >= 10 or kind == 2 and not can_be(given[1]):
            rows.append([-1])
        elif given[0] not in known:
            rows.append([-3])
        elif kind == 1:
            del known[given[0]]
            rows.append([0])
        elif kind == 2:
            known[given[0]][2] = given[1]
            rows.append([0])
        else:
            rows.append(list(known[given[0]]))
    return rows


def some_call(source, kinds):
    kind = source.choice(kinds)
    if kind == 0:
        return add(source.choice(TOWNS), source.choice(TOWNS), source.choice(COSTS))
    if kind == 1:
        return drop(source.choice(NUMBERS))
    if kind == 2:
        return cost(source.choice(NUMBERS), source.choice(COSTS))
    return road(source.choice(NUMBERS)) if kind == 3 else count()


class Histories(unittest.TestCase):
    def check(self, calls):
        self.assertEqual(ask(*calls), expected(calls), calls)

    def test_all_short_ones(self):
        few = (add(0, 1, 2), add(6, 1, 2), drop(0), drop(1), cost(0, 3), cost(1, 1000001), road(0), count())
        for length in range(1, 5):
            for calls in itertools.product(few, repeat=length):
                self.check(list(calls))

    def test_many_of_60_calls(self):
        # Many adds fill all ten places, many drops leave gaps between them.
        for kinds in ((0, 1, 2, 3, 4), (0, 0, 0, 0, 1, 2, 3, 4), (0, 0, 0, 1, 1), (0, 0, 2, 3)):
            for seed in range(500):
                source = random.Random(seed)
                self.check([some_call(source, kinds) for n in range(60)])

    def test_many_with_all_told_at_the_end(self):
        for seed in range(500):
            source = random.Random(seed)
            length = source.randrange(1, 60 - len(VIEW) + 1)
            self.check([some_call(source, (0, 0, 0, 0, 1, 2)) for n in range(length)] + list(VIEW))

    def test_one_written_out(self):
        calls = [count(), add(0, 1, 5), add(1, 0, -5), add(2, 2, 0), drop(1), road(1), add(3, 5, 1000000),
                 road(1), cost(1, -1000000), road(1), drop(10), cost(9, 1), add(0, 6, 0), count()]
        self.assertEqual(ask(*calls), [[0], [0], [1], [2], [0], [-3], [1], [3, 5, 1000000], [0],
                                       [3, 5, -1000000], [-1], [-3], [-1], [3]])


if __name__ == "__main__":
    unittest.main()
