import itertools
import unittest

import words
from asking import adds, ask, check_changes_nothing, cost, drop, full, last, least
from making import some_roads

CHAIN = [(town, town + 1) for town in range(5)]


def least_of(*roads):
    return last(*adds(*roads), least())


def round_of(*roads):
    """The round alone, as it's told."""
    told = least_of(*roads)
    return told[3:3 + told[0]]


def circle(towns, costs):
    """Roads from each town to the next, and from the last to the first."""
    return [(u, v, c) for u, v, c in zip(towns, towns[1:] + towns[:1], costs)]


class WithoutARound(unittest.TestCase):
    def test_no_roads(self):
        self.assertEqual(last(least()), [0, 0, 0, 0, 0, 0, 0])
        self.assertEqual(last(*full(), *[drop(e) for e in range(10)], least()), [0, 0, 0, 0, 0, 0, 0])

    def test_one_road(self):
        self.assertEqual(least_of((3, 1, 7)), [0, 0, 1, 0, 0, 0, 0])
        self.assertEqual(least_of((0, 5, -7)), [0, 0, 0, 0, 0, 0, 1])
        self.assertEqual(least_of((5, 0, 0)), [0, 1, 0, 0, 0, 0, 0])

    def test_ways_of_five_roads_in_whatever_order_they_came(self):
        for steps in itertools.permutations(CHAIN):
            self.assertEqual(least_of(*[(u, v, 1) for u, v in steps]), [0, 0, 1, 2, 3, 4, 5])
            self.assertEqual(least_of(*[(v, u, -1) for u, v in steps]), [0, 5, 4, 3, 2, 1, 0])

    def test_the_most_roads_count_not_the_cost(self):
        self.assertEqual(least_of((0, 1, 9), (1, 2, 9), (0, 2, -9)), [0, 0, 1, 2, 0, 0, 0])
        self.assertEqual(least_of((0, 2, -9), (1, 2, 9), (0, 1, 9)), [0, 0, 1, 2, 0, 0, 0])
        self.assertEqual(least_of((0, 2, 9), (0, 1, -9), (1, 2, -9)), [0, 0, 1, 2, 0, 0, 0])

    def test_many_roads_between_the_same_towns(self):
        self.assertEqual(least_of(*[(4, 2, n) for n in range(10)]), [0, 0, 0, 1, 0, 0, 0])

    def test_ways_that_do_not_meet(self):
        self.assertEqual(least_of((5, 4, 0), (0, 3, 0), (3, 1, 0)), [0, 0, 2, 0, 1, 1, 0])

    def test_ten_roads(self):
        upwards = list(itertools.combinations(range(6), 2))
        told = least_of(*[(u, v, 0) for u, v in upwards[5:]])
        self.assertEqual(told, [0, 0, 0, 1, 2, 3, 4])
        told = least_of(*[(u, v, 0) for u, v in upwards[:10]])
        self.assertEqual(told, [0, 0, 1, 2, 3, 2, 2])

    def test_the_round_is_gone(self):
        rows = ask(*adds((0, 1, 4), (1, 0, 4)), least(), drop(1), least(), drop(0), least())
        self.assertEqual(rows[2], [2, 4, 1, 0, 1, 0, 0, 0, 0, 0, 0])
        self.assertEqual(rows[4], [0, 0, 1, 0, 0, 0, 0])
        self.assertEqual(rows[6], [0, 0, 0, 0, 0, 0, 0])

    def test_ways_both_ways_of_a_fork(self):
        self.assertEqual(least_of((2, 0, 1), (2, 4, 1), (4, 0, 1), (0, 5, 1), (1, 5, 1)), [0, 2, 0, 0, 0, 1, 3])


class TheRound(unittest.TestCase):
    def test_from_a_town_to_itself(self):
        for town in range(6):
            self.assertEqual(least_of((town, town, 7)), [1, 7, 1, 0, 0, 0, 0, 0, 0, 0])
            self.assertEqual(least_of((town, town, -7)), [1, -7, 1, 0, 0, 0, 0, 0, 0, 0])
            self.assertEqual(least_of((town, town, 0)), [1, 0, 1, 0, 0, 0, 0, 0, 0, 0])

    def test_one_to_six_roads_told_from_the_lowest_town_on(self):
        for size in range(1, 7):
            for towns in itertools.permutations(range(6), size):
                first = towns.index(min(towns))
                told = least_of(*circle(towns, [3] * size))
                self.assertEqual(told[:3], [size, 3, 1])
                self.assertEqual(told[3:], [(first + k) % size for k in range(size)] + [0] * 6)

    def test_not_from_the_lowest_road_on(self):
        self.assertEqual(round_of((4, 2, 1), (2, 4, 1)), [1, 0])
        self.assertEqual(round_of((5, 3, 1), (3, 4, 1), (4, 5, 1)), [1, 2, 0])

    def test_the_least_mean_not_the_least_sum(self):
        self.assertEqual(least_of((0, 0, 5), (1, 2, 4), (2, 1, 4))[:5], [2, 4, 1, 1, 2])
        self.assertEqual(least_of((0, 0, -5), (1, 2, -4), (2, 1, -4))[:4], [1, -5, 1, 0])
        self.assertEqual(least_of((0, 1, 3), (1, 0, 3), (2, 3, 3), (3, 4, 3), (4, 2, 2))[:6], [3, 8, 3, 2, 3, 4])

    def test_means_that_are_close(self):
        # 5/6 beside 4/5, and 1/6 of 1 beside 1/5 of 1 at the largest costs.
        six = circle((0, 1, 2, 3, 4, 5), [1, 1, 1, 1, 1, 0])
        self.assertEqual(least_of(*six, (4, 0, 0))[:8], [5, 4, 5, 0, 1, 2, 3, 6])
        self.assertEqual(least_of(*six, (4, 0, 1))[:9], [6, 5, 6, 0, 1, 2, 3, 4, 5])
        high = circle((0, 1, 2, 3, 4, 5), [1000000] * 5 + [999999])
        self.assertEqual(least_of(*high, (4, 0, 999999))[:3], [5, 4999999, 5])
        self.assertEqual(least_of(*high, (4, 0, 1000000))[:3], [6, 5999999, 6])

    def test_a_round_within_a_longer_one(self):
        self.assertEqual(least_of((0, 1, 1), (1, 2, 1), (2, 0, 1), (1, 0, 0))[:5], [2, 1, 2, 0, 3])
        self.assertEqual(least_of((0, 1, 1), (1, 2, 1), (2, 0, -2), (1, 0, 0))[:6], [3, 0, 1, 0, 1, 2])

    def test_no_town_is_left_twice(self):
        # Two rounds that share the town 1 make no round together.
        told = least_of((1, 0, 0), (0, 1, 2), (1, 2, 0), (2, 1, 1))
        self.assertEqual(told[:5], [2, 1, 2, 2, 3])

    def test_a_costs_change(self):
        rows = ask(*adds((0, 0, 3), (1, 1, 4)), least(), cost(1, 2), least(), cost(0, 1), least())
        self.assertEqual([row[:4] for row in rows[2::2]], [[1, 3, 1, 0], [1, 2, 1, 1], [1, 1, 1, 0]])


class Ties(unittest.TestCase):
    def test_fewest_roads(self):
        self.assertEqual(round_of((0, 1, 2), (1, 0, 2), (5, 5, 2)), [2])
        self.assertEqual(round_of((0, 1, 2), (1, 2, 2), (2, 0, 2), (4, 3, 1), (3, 4, 3)), [4, 3])
        self.assertEqual(round_of(*circle((0, 1, 2, 3, 4, 5), [1, 2, 3, 3, 2, 1]), (4, 0, 1)), [0, 1, 2, 3, 6])
        self.assertEqual(round_of(*circle((0, 1, 2), [-3, 0, 3]), (4, 4, 0)), [3])

    def test_the_lower_number(self):
        self.assertEqual(round_of((3, 3, 1), (0, 0, 1)), [0])
        self.assertEqual(round_of((5, 5, 1), (5, 5, 1), (5, 5, 0), (5, 5, 0)), [2])
        self.assertEqual(round_of((0, 1, 1), (1, 0, 1), (1, 0, 1), (0, 1, 1)), [0, 1])

    def test_where_they_first_differ_as_they_are_told(self):
        # [3, 0] has the lowest road, [1, 2] the lower one where they first differ.
        self.assertEqual(round_of((1, 0, 4), (2, 3, 4), (3, 2, 4), (0, 1, 4)), [1, 2])
        # [2, 3] beside [2, 0]: at the second road.
        self.assertEqual(round_of((1, 0, 4), (5, 4, 9), (0, 1, 4), (1, 0, 4)), [2, 0])
        # [0, 2, 3] beside [0, 4, 1]: the lowest sum of numbers does not count.
        self.assertEqual(round_of((0, 1, 1), (3, 0, 1), (1, 2, 1), (2, 0, 1), (1, 3, 1)), [0, 2, 3])

    def test_not_the_lowest_town(self):
        self.assertEqual(round_of((4, 5, 1), (5, 4, 1), (0, 1, 1), (1, 0, 1)), [0, 1])

    def test_not_the_cheapest_first_road(self):
        self.assertEqual(round_of((0, 1, 3), (0, 1, 1), (1, 0, 1), (1, 0, -1)), [1, 3])
        self.assertEqual(round_of((0, 1, 3), (1, 0, -3), (2, 3, -3), (3, 2, 3)), [0, 1])

    def test_the_same_mean_of_other_sums(self):
        self.assertEqual(round_of((0, 1, 4), (1, 2, 4), (2, 3, 4), (3, 0, 0), (4, 5, 1), (5, 4, 5)), [4, 5])

    def test_freed_numbers(self):
        rows = ask(*adds((0, 1, 9), (1, 1, 2), (2, 2, 2)), least(), drop(0), *adds((4, 4, 2)), least())
        self.assertEqual((rows[3][3], rows[6][3]), (1, 0))

    def test_ten_roads_between_two_towns(self):
        self.assertEqual(round_of(*[(1, 0, 0)] * 5, *[(0, 1, 0)] * 5), [5, 0])
        self.assertEqual(round_of(*[(0, 1, 0), (1, 0, 0)] * 5), [0, 1])
        self.assertEqual(round_of(*[(0, 1, 1), (1, 0, 1)] * 4, (1, 0, 0), (0, 1, 0)), [9, 8])

    def test_ten_roads_from_a_town_to_itself(self):
        self.assertEqual(round_of(*[(2, 2, 6)] * 10), [0])
        self.assertEqual(round_of(*[(2, 2, 10 - e // 3) for e in range(10)]), [9])
        self.assertEqual(round_of(*[(2, 2, 10 - e // 3) for e in range(9)]), [6])


class TheMean(unittest.TestCase):
    def mean(self, *costs):
        told = least_of(*circle(tuple(range(len(costs))), costs))
        self.assertEqual(told[0], len(costs))
        return tuple(told[1:3])

    def test_the_sum_is_0(self):
        for size in range(1, 7):
            self.assertEqual(self.mean(*[0] * size), (0, 1))
        self.assertEqual(self.mean(5, -5), (0, 1))
        self.assertEqual(self.mean(1000000, -1000000, 3, -3, 1, -1), (0, 1))

    def test_the_length_divides_it(self):
        self.assertEqual(self.mean(6, 2), (4, 1))
        self.assertEqual(self.mean(-6, -2), (-4, 1))
        self.assertEqual(self.mean(1, 2, 3, 4, 5, 9), (4, 1))
        self.assertEqual(self.mean(*[1000000] * 6), (1000000, 1))
        self.assertEqual(self.mean(*[-1000000] * 6), (-1000000, 1))

    def test_it_does_not(self):
        self.assertEqual(self.mean(1, 2), (3, 2))
        self.assertEqual(self.mean(-1, -2), (-3, 2))
        self.assertEqual(self.mean(1, 0, 0), (1, 3))
        self.assertEqual(self.mean(-1, 0, 0, 0, 0), (-1, 5))
        self.assertEqual(self.mean(-1000000, -1000000, -1000000, -1000000, -1000000, -999999), (-5999999, 6))

    def test_only_a_part_cancels(self):
        self.assertEqual(self.mean(1, 1, 0, 0), (1, 2))
        self.assertEqual(self.mean(-3, -3, 0, 0), (-3, 2))
        self.assertEqual(self.mean(4, 0, 0, 0, 0, 0), (2, 3))
        self.assertEqual(self.mean(-4, 0, 0, 0, 0, 0), (-2, 3))
        self.assertEqual(self.mean(9, 0, 0, 0, 0, 0), (3, 2))
        self.assertEqual(self.mean(-9, 0, 0, 0, 0, 0), (-3, 2))


class ThePrices(unittest.TestCase):
    def prices(self, *roads):
        return least_of(*roads)[-6:]

    def test_in_lowest_terms(self):
        # The mean is 1, told as 1 / 1, not 2 / 2.
        self.assertEqual(least_of((0, 1, 3), (1, 0, -1)), [2, 1, 1, 0, 1, -2, 0, 0, 0, 0, 0])
        self.assertEqual(least_of((0, 1, 3), (1, 0, -2)), [2, 1, 2, 0, 1, -5, 0, 0, 0, 0, 0])

    def test_of_a_town_that_the_round_leads_to(self):
        self.assertEqual(self.prices((3, 3, 7), (3, 4, -100)), [0, 0, 0, 0, -107, 0])
        self.assertEqual(self.prices((3, 3, 7), (3, 4, 6)), [0, 0, 0, 0, -1, 0])
        self.assertEqual(self.prices((3, 3, 7), (3, 4, 7)), [0, 0, 0, 0, 0, 0])
        self.assertEqual(self.prices((3, 3, 7), (3, 4, 8)), [0, 0, 0, 0, 0, 0])

    def test_of_a_town_that_leads_to_the_round(self):
        self.assertEqual(self.prices((3, 3, 7), (4, 3, 0)), [0, 0, 0, -7, 0, 0])
        self.assertEqual(self.prices((3, 3, 7), (4, 3, 0), (5, 4, 1)), [0, 0, 0, -13, -6, 0])
        self.assertEqual(self.prices((3, 3, 7), (4, 3, 9), (5, 4, 1)), [0, 0, 0, -4, -6, 0])

    def test_of_a_town_apart_from_the_round(self):
        self.assertEqual(self.prices((3, 3, 7), (0, 1, -5)), [0, -12, 0, 0, 0, 0])
        self.assertEqual(self.prices((3, 3, -7), (0, 1, -5), (1, 2, -8)), [0, 0, -1, 0, 0, 0])

    def test_of_a_town_on_another_round(self):
        self.assertEqual(self.prices((3, 3, 1), (0, 1, -5), (1, 0, 8)), [0, -6, 0, 0, 0, 0])
        self.assertEqual(self.prices((3, 3, 1), (0, 1, 8), (1, 0, -5)), [-6, 0, 0, 0, 0, 0])

    def test_ways_of_five_roads_in_whatever_order_they_came(self):
        for steps in itertools.permutations(CHAIN):
            out = [(u, v, 0) for u, v in steps]
            self.assertEqual(self.prices((0, 0, 10), *out), [0, -10, -20, -30, -40, -50])
            back = [(v, u, 1) for u, v in steps]
            self.assertEqual(self.prices(*back, (0, 0, 3)), [-10, -8, -6, -4, -2, 0])

    def test_of_several_ways_the_least(self):
        roads = ((0, 0, 0), (0, 1, -3), (0, 2, -1), (2, 1, -1), (1, 3, 1), (2, 3, -4))
        self.assertEqual(self.prices(*roads), [0, -3, -1, -5, 0, 0])
        self.assertEqual(self.prices((5, 5, 0), (0, 1, 1), (0, 1, -2), (0, 1, -1)), [0, -2, 0, 0, 0, 0])

    def test_with_a_den(self):
        # The mean is 1 / 3: a road comes to three times its cost, less 1.
        roads = circle((0, 1, 2), [1, 0, 0]) + [(2, 5, -4), (4, 5, 0)]
        self.assertEqual(self.prices(*roads), [-2, 0, -1, 0, 0, -14])

    def test_at_the_largest_costs(self):
        roads = [(0, 0, 1000000), (0, 1, -1000000), (1, 2, -1000000), (2, 3, -1000000), (3, 4, -1000000),
                 (4, 5, -1000000)]
        self.assertEqual(self.prices(*roads), [0, -2000000, -4000000, -6000000, -8000000, -10000000])

    def test_held_against_the_words(self):
        for seed in range(400):
            roads = some_roads(seed)
            told = least_of(*roads)
            known = dict(enumerate(roads))
            wanted = words.prices(known, *told[1:3]) if told[0] else words.levels(known)
            self.assertEqual(told[-6:], wanted, roads)


class NothingChanges(unittest.TestCase):
    def test_least(self):
        for seed in range(60):
            before = adds(*some_roads(seed))
            check_changes_nothing(self, before, least(), last(*before, least()))


if __name__ == "__main__":
    unittest.main()
