import itertools
import unittest

import words
from asking import (EDGE_MEANS, MOST, WRONG_MEANS, add, adds, check, check_changes_nothing, check_refused, cost, drop,
                    full, last, shift)
from making import some_roads

HIGH = (1000000000, 1)
TRIANGLE = ((0, 1, 5), (1, 2, 4), (2, 0, 1))

# Two rounds that share the town 1, a road from a town to itself, a road twice between the same towns, and one apart.
EIGHT = ((0, 1, 1), (1, 0, 2), (1, 2, 3), (2, 1, 4), (3, 3, 5), (0, 1, 6), (2, 0, 7), (4, 5, 8))


def check_of(ring, num, den, *roads):
    return last(*adds(*roads), check(ring, num, den))


class ARound(unittest.TestCase):
    def test_from_each_of_its_roads_on(self):
        for size in range(1, 7):
            for towns in ((0, 1, 2, 3, 4, 5)[:size], (5, 3, 4, 0, 2, 1)[:size]):
                roads = [(u, v, 2) for u, v in zip(towns, towns[1:] + towns[:1])]
                for by in range(size):
                    self.assertEqual(check_of(shift(list(range(size)), by), 2, 1, *roads), [1])
                    self.assertEqual(check_of(shift(list(range(size)), by), 1, 1, *roads), [0])

    def test_its_mean_exactly_and_a_little_off(self):
        # The mean is 10 / 3.
        for ring in ([0, 1, 2], [1, 2, 0], [2, 0, 1]):
            for num, den, wanted in ((10, 3, 1), (20, 6, 1), (3330, 999, 1), (3331, 999, 1), (3329, 999, 0),
                                     (4, 1, 1), (3, 1, 0), (1000000000, 1, 1), (-1000000000, 1, 0)):
                self.assertEqual(check_of(ring, num, den, *TRIANGLE), [wanted], (ring, num, den))

    def test_with_costs_below_0(self):
        for num, den, wanted in ((-3, 2, 1), (-1500, 1000, 1), (-1501, 1000, 0), (-1499, 1000, 1), (-1, 1, 1),
                                 (-2, 1, 0), (0, 1, 1)):
            self.assertEqual(check_of([1, 0], num, den, (0, 1, -1), (1, 0, -2)), [wanted], (num, den))

    def test_not_the_least_round(self):
        self.assertEqual(check_of([4], 5, 1, *EIGHT), [1])
        self.assertEqual(check_of([4], 4, 1, *EIGHT), [0])
        self.assertEqual(check_of([5, 2, 6], 16, 3, *EIGHT), [1])
        self.assertEqual(check_of([5, 2, 6], 15, 3, *EIGHT), [0])
        self.assertEqual(check_of([1, 5], 4, 1, *EIGHT), [1])

    def test_all_rings_of_up_to_four_roads(self):
        known = dict(enumerate(EIGHT))
        rounds = words.rounds(known)
        turned = [shift(ring, by) for ring in rounds for by in range(len(ring))]
        for size in range(5):
            for ring in itertools.product(range(9), repeat=size):
                self.assertEqual(check_of(list(ring), *HIGH, *EIGHT), [int(list(ring) in turned)], ring)

    def test_at_the_edges(self):
        for num, den, wanted in ((1000000000, 1, 1), (1000000000, 1000, 1), (999999999, 1000, 0), (-1000000000, 1, 0)):
            self.assertEqual(check_of([0], num, den, (2, 2, 1000000)), [wanted])
        for num, den, wanted in ((-1000000000, 1000, 1), (-1000000000, 999, 0), (-999999999, 1000, 1)):
            self.assertEqual(check_of([0], num, den, (2, 2, -1000000)), [wanted])


class NoRound(unittest.TestCase):
    def test_the_empty_one(self):
        for roads in ((), ((0, 0, 0),), EIGHT):
            for num, den in (*EDGE_MEANS, (3, 2)):
                self.assertEqual(check_of([], num, den, *roads), [0])

    def test_a_road_that_is_not_there(self):
        for e in range(10):
            self.assertEqual(check_of([e], *HIGH), [0])
        for ring in ([8], [9], [0, 8], [8, 0], [0, 1, 9], [9, 4]):
            self.assertEqual(check_of(ring, *HIGH, *EIGHT), [0], ring)

    def test_a_road_that_is_gone(self):
        before = adds(*TRIANGLE)
        for e in range(3):
            self.assertEqual(last(*before, drop(e), check([0, 1, 2], *HIGH)), [0])
        self.assertEqual(last(*before, drop(1), add(1, 2, 9), check([0, 1, 2], 5, 1)), [1])
        self.assertEqual(last(*before, drop(1), add(1, 2, 9), check([0, 1, 2], 10, 3)), [0])
        self.assertEqual(last(*before, drop(1), add(2, 1, 4), check([0, 1, 2], *HIGH)), [0])
        self.assertEqual(last(*before, cost(1, 5), check([0, 1, 2], 10, 3)), [0])

    def test_a_number_above_9(self):
        for e in (10, 11, 14, 1000000, MOST - 1, MOST):
            for ring in ([e], [e, 4], [4, e], [0, 1, e], [0, e], [e] * 700):
                self.assertEqual(check_of(ring, *HIGH, *EIGHT), [0], ring[:9])
                self.assertEqual(last(*full(), check(ring, *HIGH)), [0], ring[:9])

    def test_a_road_twice(self):
        for ring in ([4, 4], [0, 1, 0, 1], [0, 0], [0, 0, 1], [0, 1, 1], [0, 1, 0]):
            self.assertEqual(check_of(ring, *HIGH, *EIGHT), [0], ring)

    def test_a_round_gone_twice(self):
        for size in range(1, 7):
            roads = [(town, (town + 1) % size, 0) for town in range(size)]
            for times in (2, 3, 100):
                self.assertEqual(check_of(list(range(size)) * times, *HIGH, *roads), [0])

    def test_a_way_that_does_not_close(self):
        for ring in ([0], [7], [0, 2], [2, 6], [1, 0, 2], [6, 0]):
            self.assertEqual(check_of(ring, *HIGH, *EIGHT), [0], ring)
        self.assertEqual(check_of([0, 1, 2, 3, 4], *HIGH, *[(town, town + 1, 0) for town in range(5)]), [0])

    def test_roads_that_do_not_join(self):
        for ring in ([0, 3], [2, 1], [0, 4, 1], [4, 7], [0, 6, 2], [6, 2, 0], [7, 4]):
            self.assertEqual(check_of(ring, *HIGH, *EIGHT), [0], ring)

    def test_the_wrong_way_round(self):
        self.assertEqual(check_of([0, 1, 2], *HIGH, *TRIANGLE), [1])
        self.assertEqual(check_of([2, 1, 0], *HIGH, *TRIANGLE), [0])

    def test_a_town_left_twice(self):
        # Two rounds through the town 1, one behind the other, and a road to itself on the way.
        for ring in ([0, 2, 3, 1], [2, 3, 1, 0], [1, 0, 2, 3], [1, 5, 2, 3], [0, 2, 3, 2, 6]):
            self.assertEqual(check_of(ring, *HIGH, *EIGHT), [0], ring)
        self.assertEqual(check_of([0, 2, 1], *HIGH, (0, 1, 0), (1, 0, 0), (1, 1, 0)), [0])
        self.assertEqual(check_of([0, 2, 1], *HIGH, (0, 1, 0), (1, 0, 0), (0, 0, 0)), [0])

    def test_up_to_700_numbers(self):
        for size in (7, 10, 60, 699, 700):
            self.assertEqual(check_of([n % 3 for n in range(size)], *HIGH, *TRIANGLE), [0])
            self.assertEqual(check_of([4] * size, *HIGH, *EIGHT), [0])
            self.assertEqual(check_of([0] * size, *HIGH), [0])
            self.assertEqual(check_of([0, 1, 2] + [MOST] * (size - 3), *HIGH, *TRIANGLE), [0])


class Refused(unittest.TestCase):
    def test_by_the_mean_ahead_of_all_else(self):
        for ring in ([0, 1, 2], [1, 2, 0], [], [0], [9], [10], [MOST], [0, 0], [2, 1, 0]):
            for num, den in WRONG_MEANS:
                check_refused(self, adds(*TRIANGLE), check(ring, num, den), -1)

    def test_whatever_the_ring_is(self):
        for ring in ([0] * 700, [MOST] * 700, [0, 1, 2] * 233):
            for num, den in WRONG_MEANS:
                self.assertEqual(check_of(ring, num, den, *TRIANGLE), [-1])
                self.assertEqual(check_of(ring, num, den), [-1])


class NothingChanges(unittest.TestCase):
    def test_check(self):
        for seed in range(60):
            before = adds(*some_roads(seed))
            for ring in ([0], [], [0, 1], [MOST], [1, 0, 2]):
                check_changes_nothing(self, before, check(ring, *HIGH), last(*before, check(ring, *HIGH)))


if __name__ == "__main__":
    unittest.main()
