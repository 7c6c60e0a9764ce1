"""What the document promises over the whole program, asked of the program through its own calls alone."""

import unittest

from asking import add, adds, ask, below, check, check_price, cost, count, drop, last, least, road
from making import Maker, some_roads

SEEDS = range(300)


def least_after(calls):
    """What least tells of its mean, its round and its prices (or levels), after these calls."""
    told = last(*calls, least())
    return told[1:3] if told[0] else None, told[3:3 + told[0]] if told[0] else [], told[-6:]


class TheLeast(unittest.TestCase):
    def test_passes_check_and_check_price_at_its_own_mean(self):
        for seed in SEEDS:
            calls = adds(*some_roads(seed))
            told, ring, prices = least_after(calls)
            if told:
                rows = ask(*calls, check(ring, *told), check_price(prices, *told))
                self.assertEqual(rows[-2:], [[1], [1]], calls)

    def test_passes_check_at_no_mean_below(self):
        for seed in SEEDS:
            calls = adds(*some_roads(seed))
            told, ring, prices = least_after(calls)
            if told:
                num, den = told
                lower = [(num - 1, den), (num * 100 - 1, den * 100), (num - 1000, den), (-1000000000, 1)]
                rows = ask(*calls, *[check(ring, *mean) for mean in lower])
                self.assertEqual(rows[len(calls):], [[0]] * 4, calls)

    def test_no_prices_hold_above_its_mean(self):
        for seed in SEEDS:
            calls = adds(*some_roads(seed))
            told, ring, prices = least_after(calls)
            if told:
                num, den = told
                for times in (1, 2, 100):
                    scaled = [times * number for number in prices]
                    rows = ask(*calls, check_price(scaled, num * times, den * times),
                               check_price(scaled, num * times + 1, den * times))
                    self.assertEqual(rows[-2:], [[1], [0]], calls)

    def test_no_round_that_can_be_walked_is_below(self):
        # Walks from road to road, closed where they can be: whatever check takes for a round isn't below the least.
        for seed in range(100):
            roads = some_roads(seed)
            calls = adds(*roads)
            told, ring, prices = least_after(calls)
            walks = [[e] for e in range(len(roads))]
            for walk in walks:
                if len(walk) < 3:
                    walks.extend([*walk, e] for e in range(len(roads)) if roads[e][0] == roads[walk[-1]][1])
            for walk in walks[:200]:
                if told is None:
                    self.assertEqual(last(*calls, check(walk, 1000000000, 1)), [0], calls)
                else:
                    num, den = told
                    self.assertEqual(last(*calls, check(walk, num * 100 - 1, den * 100)), [0], (calls, walk))


class Below(unittest.TestCase):
    def test_a_round_passes_check_and_prices_pass_check_price(self):
        seen = [0, 0]
        for seed in SEEDS:
            maker = Maker(seed)
            calls = adds(*some_roads(seed))
            for call in calls:
                maker.line.answer(call)
            for n in range(6):
                num, den = maker.some_mean()
                told = last(*calls, below(num, den))
                if told[0] < 0:
                    continue
                made = check(told[1:], num, den) if told[0] else check_price(told[1:], num, den)
                self.assertEqual(last(*calls, made), [1], (calls, num, den))
                seen[told[0] > 0] += 1
        self.assertGreater(min(seen), 100)

    def test_a_round_is_below_and_not_at(self):
        for seed in SEEDS:
            calls = adds(*some_roads(seed))
            told, ring, prices = least_after(calls)
            if told:
                num, den = told
                self.assertEqual(last(*calls, below(num, den)), [0, *prices], calls)
                self.assertEqual(last(*calls, below(num * 9 + 1, den * 9)), [len(ring), *ring], calls)

    def test_a_round_below_and_prices_that_hold_cannot_both_be(self):
        for seed in SEEDS:
            calls = adds(*some_roads(seed))
            told, ring, prices = least_after(calls)
            if told:
                num, den = told[0] * 7 + 1, told[1] * 7
                tries = [prices, [7 * number for number in prices], [0] * 6, list(range(6)), list(range(0, -12, -2))]
                rows = ask(*calls, below(num, den), *[check_price(price, num, den) for price in tries])
                self.assertEqual(rows[len(calls)], [len(ring), *ring])
                self.assertEqual(rows[len(calls) + 1:], [[0]] * 5, calls)


class Levels(unittest.TestCase):
    def test_rise_along_each_road(self):
        seen = 0
        for seed in SEEDS:
            roads = some_roads(seed)
            told = last(*adds(*roads), least())
            if told[0] == 0:
                seen += 1
                levels = told[1:]
                for u, v, c in roads:
                    self.assertLess(levels[u], levels[v], roads)
                # Each town's level is one more than that of some road's beginning, or no road leads there.
                for town in range(6):
                    before = [levels[u] for u, v, c in roads if v == town]
                    self.assertEqual(levels[town], max(before) + 1 if before else 0, roads)
        self.assertGreater(seen, 30)


def mean_is_greater(one, other):
    return one[0] * other[1] > other[0] * one[1]


class RoadsThatGoAndCome(unittest.TestCase):
    def test_a_road_not_on_the_least_round_may_go(self):
        for seed in SEEDS:
            calls = adds(*some_roads(seed))
            told, ring, prices = least_after(calls)
            if told:
                for e in range(len(calls)):
                    if e not in ring:
                        self.assertEqual(least_after([*calls, drop(e)])[:2], (told, ring), calls)

    def test_all_that_are_not_on_it_may_go(self):
        for seed in SEEDS:
            calls = adds(*some_roads(seed))
            told, ring, prices = least_after(calls)
            if told:
                others = [drop(e) for e in range(len(calls)) if e not in ring]
                self.assertEqual(least_after([*calls, *others])[:2], (told, ring), calls)

    def test_a_road_that_comes_makes_it_no_greater(self):
        for seed in SEEDS:
            roads = some_roads(seed, most=9)
            told = least_after(adds(*roads))[0]
            for n in range(8):
                new = ((seed + n) % 6, (seed * 5 + n * n) % 6, (-1000000, -1, 0, 1, 1000000)[(seed + n) % 5])
                after = least_after(adds(*roads, new))[0]
                if told:
                    self.assertFalse(mean_is_greater(after, told), (roads, new))

    def test_after_each_call_of_a_history(self):
        for seed in range(60):
            maker = Maker(seed)
            calls = []
            before = None
            for n in range(30):
                call = maker.some_call((0, 0, 0, 1, 2), 800)
                ring = least_after(calls)[1]
                calls.append(call)
                after, now, prices = least_after(calls)
                if before and call[0] == 0:
                    self.assertFalse(mean_is_greater(after, before), calls)
                if before and call[0] == 1 and call[1] not in ring:
                    self.assertEqual(after, before, calls)
                if after:
                    rows = ask(*calls, check(now, *after), check_price(prices, *after))
                    self.assertEqual(rows[-2:], [[1], [1]], calls)
                before = after


class TheFourChangeNothing(unittest.TestCase):
    def test_put_between_the_calls_of_a_history(self):
        four = [least(), below(1, 2), check([0], 1, 2), check_price([0] * 6, 1, 2), below(0, 0), check([], 0, 0),
                check([0] * 9, 3, 1), check_price([], 0, 1)]
        for seed in range(100):
            maker = Maker(seed)
            calls = [maker.some_call((0, 0, 0, 1, 2, 3, 4), 800) for n in range(30)]
            mixed = [asked for n, call in enumerate(calls) for asked in (four[(seed + n) % len(four)], call)]
            self.assertEqual(ask(*mixed)[1::2], ask(*calls), calls)

    def test_written_out(self):
        rows = ask(*adds((0, 1, 3), (1, 0, 4)), least(), below(4, 1), check([0, 1], 4, 1), check_price([0] * 6, 0, 1),
                   road(0), road(1), count(), least(), add(2, 2, 1), cost(0, 2), least())
        self.assertEqual(rows[2:], [[2, 7, 2, 0, 1, 0, -1, 0, 0, 0, 0], [2, 0, 1], [1], [1], [0, 1, 3], [1, 0, 4], [2],
                                    [2, 7, 2, 0, 1, 0, -1, 0, 0, 0, 0], [2], [0],
                                    [1, 1, 1, 2, 0, 0, 0, 0, 0, 0]])


if __name__ == "__main__":
    unittest.main()
