"""Calls made from a seed, so that they're the same each time; those that check are made to be near what's true."""

import random

import words
from asking import EDGE_MEANS, MOST, WRONG_MEANS, add, below, check, check_price, cost, count, drop, least, road, shift

NUMBERS = (0, 0, 1, 2, 3, 4, 5, 6, 7, 8, 9, 10, MOST)
WRONG_TOWNS = (6, 7, MOST)
WRONG_COSTS = (1000001, -1000001, MOST, -MOST)

# The costs that a line's roads have: few, for many ties; small; at the edges; all.
COSTS = ((0,), (0, 1), (-1, 0, 1), (5, 5, 5, 4), tuple(range(-9, 10)), (-1000000, 999999, 1000000, -999999, 0),
         tuple(range(-1000000, 1000001, 1009)))

# The towns that a line's roads join: few, for many roads between the same.
SOME_TOWNS = ((0,), (2, 5), (0, 1, 2), (1, 3, 4, 5), tuple(range(6)), tuple(range(6)), tuple(range(6)))


class Maker:
    """Makes calls for one line, knowing what the words say of the line so far."""

    def __init__(self, seed):
        self.source = random.Random(seed)
        self.line = words.Words()
        self.towns = self.source.choice(SOME_TOWNS)
        self.costs = self.source.choice(COSTS)
        self.manner = self.source.choice(("upwards", "circling", "circling", "any", "any", "any", "any"))
        self.circle = self.source.sample(range(6), self.source.randrange(3, 7))
        self.turns = 0

    def some_ends(self):
        # Roads that lead to higher towns alone make no round; those that go on from town to town make long ones.
        if self.manner == "upwards":
            return sorted(self.source.sample(range(6), 2))
        if self.manner == "circling" and self.source.random() < 0.9:
            self.turns += 1
            size = len(self.circle)
            return self.circle[self.turns % size], self.circle[(self.turns + 1) % size]
        return self.source.choice(self.towns), self.source.choice(self.towns)

    def some_add(self):
        u, v = self.some_ends()
        new = self.source.choice(self.costs)
        wrong = self.source.randrange(30)
        if wrong == 0:
            u = self.source.choice(WRONG_TOWNS)
        elif wrong == 1:
            v = self.source.choice(WRONG_TOWNS)
        elif wrong == 2:
            new = self.source.choice(WRONG_COSTS)
        return add(u, v, new)

    def some_cost(self):
        return cost(self.source.choice(NUMBERS), self.source.choice(self.costs * 3 + WRONG_COSTS[:1]))

    def near_mean(self, ring):
        """The ring's mean, over some other den too, or a little off it."""
        told = words.mean(self.line.known, ring)
        times = self.source.randrange(1, 1000 // told.denominator + 1)
        by = self.source.choice((0, 0, 0, 1, -1, 2, -7))
        return told.numerator * times + by, told.denominator * times

    def some_mean(self):
        draw = self.source.random()
        if draw < 0.04:
            return self.source.choice(WRONG_MEANS)
        if draw < 0.1:
            return self.source.choice(EDGE_MEANS)
        found = words.rounds(self.line.known)
        if found and draw < 0.9:
            ring = words.least_round(self.line.known) if draw < 0.6 else self.source.choice(found)
            return self.near_mean(ring)
        return self.source.randrange(-20, 20), self.source.randrange(1, 9)

    def some_ring(self, most):
        """A round from some road on, or numbers that are near one, or any, at most so many."""
        numbers = list(self.line.known) or [0]
        ring = list(self.source.choice(words.rounds(self.line.known) or [numbers]))
        ring = shift(ring, self.source.randrange(len(ring)))
        change = self.source.randrange(12)
        if change == 0:
            ring = [self.source.choice(NUMBERS) for n in range(self.source.randrange(8))]
        elif change == 1:
            ring[self.source.randrange(len(ring))] = self.source.choice(NUMBERS)
        elif change == 2:
            ring = ring * self.source.choice((2, 2, 3, 20))
        elif change == 3:
            ring.pop(self.source.randrange(len(ring)))
        elif change == 4:
            ring.insert(self.source.randrange(len(ring)), self.source.choice(numbers))
        elif change == 5:
            self.source.shuffle(ring)
        return ring[:most]

    def near_prices(self, num, den):
        """The prices for the mean, or for the least mean where a round is below the one asked for."""
        ring = words.least_round(self.line.known)
        if ring is not None:
            told = words.mean(self.line.known, ring)
            if told * den < num:
                return words.prices(self.line.known, told.numerator, told.denominator)
        return words.prices(self.line.known, num, den)

    def some_prices(self, num, den, most):
        price = self.near_prices(num, den) if words.mean_can_be(num, den) else [0] * 6
        change = self.source.randrange(12)
        if change == 0:
            price = [self.source.choice((0, 1, -1, 50, MOST, -MOST)) for n in range(self.source.choice((6, 6, 5, 7)))]
        elif change == 1:
            price = price[:-1]
        elif change == 2:
            price = price + [0] * self.source.choice((1, 6, 90))
        elif change == 3:
            price = []
        elif change == 4:
            by = self.source.choice((1, -1, 1000, MOST // 2, -MOST // 2))
            price = [number + by for number in price]
        elif change <= 8:
            price[self.source.randrange(6)] += self.source.choice((1, -1, 2, -2, 30, -30))
        return price[:most]

    def some_check(self, most):
        ring = self.some_ring(most)
        num, den = self.some_mean()
        if self.source.random() < 0.6 and words.is_round(self.line.known, ring):
            num, den = self.near_mean(ring)
        return check(ring, num, den)

    def some_check_price(self, most):
        num, den = self.some_mean()
        return check_price(self.some_prices(num, den, most), num, den)

    def some_call(self, kinds, room):
        """A call of one of these kinds, with at most so many numbers, 4 or more."""
        kind = self.source.choice(kinds)
        call = (self.some_add, lambda: drop(self.source.choice(NUMBERS)), self.some_cost,
                lambda: road(self.source.choice(NUMBERS)), count, least, lambda: below(*self.some_mean()),
                lambda: self.some_check(room - 4), lambda: self.some_check_price(room - 4))[kind]()
        self.line.answer(call)
        return call


def some_calls(seed, kinds, most=60):
    """A line of as many calls as told, or fewer where its numbers are used up."""
    maker = Maker(seed)
    calls = []
    room = 800
    while len(calls) < most and room >= 4:
        calls.append(maker.some_call(kinds, room))
        room -= len(calls[-1])
    return calls


def some_roads(seed, most=10):
    """Adds that are all answered: up to so many roads, as (u, v, cost)."""
    maker = Maker(seed)
    return [(*maker.some_ends(), maker.source.choice(maker.costs)) for n in range(maker.source.randrange(1, most + 1))]
