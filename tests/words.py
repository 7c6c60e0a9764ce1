"""The document's words, written a second time and as plainly as can be: what each call of a line answers."""

import functools
import itertools
from fractions import Fraction

TOWNS = range(6)

# Longer than any way that meets no town twice, so that a way that does would be seen to come to less.
LONG = 12

# Every circle of towns, from its lowest town on.
CIRCLES = [towns for size in range(1, 7) for towns in itertools.permutations(TOWNS, size) if towns[0] == min(towns)]


@functools.lru_cache(maxsize=4096)
def rounds_between(ends):
    """Every round, as it's told, of roads of which each is (number, from where, to where)."""
    between = {}
    for e, u, v in ends:
        between.setdefault((u, v), []).append(e)
    found = []
    for towns in CIRCLES:
        choices = [between.get(step) for step in zip(towns, towns[1:] + towns[:1])]
        if all(choices):
            found.extend(itertools.product(*choices))
    return tuple(found)


def rounds(known):
    """Every round, as it's told."""
    return [list(ring) for ring in rounds_between(tuple((e, u, v) for e, (u, v, c) in sorted(known.items())))]


def mean(known, ring):
    return Fraction(sum(known[e][2] for e in ring), len(ring))


def least_round(known):
    return min(rounds(known), key=lambda ring: (mean(known, ring), len(ring), ring), default=None)


def prices(known, num, den):
    """Of each town the least of 0 and of what ways to it come to, over the ways of 1, 2, 3 and on roads."""
    found = [0] * 6
    cheapest = {town: 0 for town in TOWNS}
    for length in range(LONG):
        longer = {}
        for u, v, c in known.values():
            if u in cheapest:
                comes_to = cheapest[u] + den * c - num
                longer[v] = min(longer.get(v, comes_to), comes_to)
        cheapest = longer
        found = [min(found[town], cheapest.get(town, 0)) for town in TOWNS]
    return found


def levels(known):
    found = [0] * 6
    reached = set(TOWNS)
    for length in range(1, LONG):
        reached = {v for u, v, c in known.values() if u in reached}
        found = [length if town in reached else found[town] for town in TOWNS]
    return found


def hold(known, price, num, den):
    return all(den * c - num + price[u] - price[v] >= 0 for u, v, c in known.values())


def is_round(known, ring):
    return any(ring[k:] + ring[:k] in rounds(known) for k in range(len(ring))) if len(ring) <= 6 else False


def cost_can_be(new):
    return new in range(-1000000, 1000001)


def mean_can_be(num, den):
    return num in range(-10 ** 9, 10 ** 9 + 1) and den in range(1, 1001)


class Words:
    """One line's roads by their numbers, and the answer to each call on them."""

    def __init__(self):
        self.known = {}

    def answer(self, call):
        kind, given = call[0], call[1:]
        told = (self.add, self.drop, self.cost, self.road, self.count, self.least, self.below, self.check,
                self.check_price)[kind]
        return told(given[0], given[1], given[3:]) if kind >= 7 else told(*given)

    def add(self, u, v, new):
        if max(u, v) > 5 or not cost_can_be(new):
            return [-1]
        free = sorted(set(range(10)) - set(self.known))
        if not free:
            return [-2]
        self.known[free[0]] = [u, v, new]
        return [free[0]]

    def drop(self, e):
        if e > 9:
            return [-1]
        return [0] if self.known.pop(e, None) else [-3]

    def cost(self, e, new):
        if e > 9 or not cost_can_be(new):
            return [-1]
        if e not in self.known:
            return [-3]
        self.known[e][2] = new
        return [0]

    def road(self, e):
        if e > 9:
            return [-1]
        return list(self.known.get(e, [-3]))

    def count(self):
        return [len(self.known)]

    def least(self):
        ring = least_round(self.known)
        if ring is None:
            return [0, *levels(self.known)]
        told = mean(self.known, ring)
        parts = (told.numerator, told.denominator)
        return [len(ring), *parts, *ring, *prices(self.known, *parts)]

    def below(self, num, den):
        if not mean_can_be(num, den):
            return [-1]
        if any(mean(self.known, ring) < Fraction(num, den) for ring in rounds(self.known)):
            ring = least_round(self.known)
            return [len(ring), *ring]
        return [0, *prices(self.known, num, den)]

    def check(self, num, den, ring):
        if not mean_can_be(num, den):
            return [-1]
        return [int(is_round(self.known, ring) and mean(self.known, ring) <= Fraction(num, den))]

    def check_price(self, num, den, price):
        if not mean_can_be(num, den):
            return [-1]
        return [int(len(price) == 6 and hold(self.known, price, num, den))]


def expected(calls):
    line = Words()
    return [line.answer(call) for call in calls]
