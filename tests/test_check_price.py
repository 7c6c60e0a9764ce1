import unittest

import words
from asking import (EDGE_MEANS, MOST, WRONG_MEANS, adds, check_changes_nothing, check_price, check_refused, drop, full,
                    last)
from making import some_roads

NONE = [0] * 6
TRIANGLE = ((0, 1, 5), (1, 2, 4), (2, 0, 1))


def holds(price, num, den, *roads):
    return last(*adds(*roads), check_price(price, num, den))


class SixNumbers(unittest.TestCase):
    def test_hold_just_so_and_by_one_not(self):
        # The road comes to 3 * 4 - 5 = 7: its end may cost 7 more than its beginning, and no more.
        for low in (-1000, -7, 0, 1, 500):
            price = [90, 80, low, 70, 60, low]
            for more, wanted in ((-100, 1), (0, 1), (6, 1), (7, 1), (8, 0), (100, 0)):
                self.assertEqual(holds([*price[:5], low + more], 5, 3, (2, 5, 4)), [wanted], (low, more))
                self.assertEqual(holds([*price[:2], low - more, *price[3:]], 5, 3, (2, 5, 4)), [wanted], (low, more))

    def test_by_the_mean(self):
        for num, den, wanted in ((5, 3, 1), (4, 3, 1), (6, 3, 0), (5, 2, 0), (5, 4, 1), (10, 6, 1), (-5, 1, 1),
                                 (17, 6, 1), (18, 6, 0)):
            self.assertEqual(holds([0, 0, 0, 0, 0, 7], num, den, (2, 5, 4)), [wanted], (num, den))

    def test_at_the_rounds_mean_in_either_size(self):
        self.assertEqual(holds([-7, -2, 0, 0, 0, 0], 10, 3, *TRIANGLE), [1])
        self.assertEqual(holds([-14, -4, 0, 0, 0, 0], 20, 6, *TRIANGLE), [1])
        self.assertEqual(holds([-7, -2, 0, 0, 0, 0], 20, 6, *TRIANGLE), [0])
        self.assertEqual(holds([-14, -4, 0, 0, 0, 0], 10, 3, *TRIANGLE), [0])
        self.assertEqual(holds([-7, -2, 0, 0, 0, 0], 11, 3, *TRIANGLE), [0])

    def test_a_round_at_its_mean_leaves_no_choice(self):
        for place in range(3):
            for by in (1, -1):
                price = [-7, -2, 0, 0, 0, 0]
                price[place] += by
                self.assertEqual(holds(price, 10, 3, *TRIANGLE), [0])
        for place in range(3, 6):
            price = [-7, -2, 0, 0, 0, 0]
            price[place] -= 100
            self.assertEqual(holds(price, 10, 3, *TRIANGLE), [1])
        self.assertEqual(holds([93, 98, 100, 5, 6, 7], 10, 3, *TRIANGLE), [1])

    def test_every_road_counts(self):
        # Of ten roads nine hold by far, and one by one number not.
        for e in range(10):
            roads = [(e % 6, (e + 1) % 6, 100)] * 10
            roads[e] = (0, 3, 0)
            self.assertEqual(holds([0, 0, 0, 0, 0, 0], 0, 1, *roads), [1])
            self.assertEqual(holds([0, 0, 0, 1, 0, 0], 0, 1, *roads), [0])
            self.assertEqual(last(*adds(*roads), drop(e), check_price([0, 0, 0, 1, 0, 0], 0, 1)), [1])

    def test_a_road_from_a_town_to_itself(self):
        for price in (NONE, [MOST] * 6, [0, 5, -MOST, 3, 2, MOST]):
            for num, den, wanted in ((4, 1, 1), (8, 2, 1), (9, 2, 0), (7, 2, 1), (5, 1, 0)):
                self.assertEqual(holds(price, num, den, (2, 2, 4)), [wanted])

    def test_many_between_the_same_towns(self):
        roads = [(1, 4, cost) for cost in (9, 8, 7, 6, 3, 5, 6, 7, 8, 9)]
        self.assertEqual(holds([0, 0, 0, 0, 3, 0], 0, 1, *roads), [1])
        self.assertEqual(holds([0, 0, 0, 0, 4, 0], 0, 1, *roads), [0])

    def test_no_roads(self):
        for price in (NONE, [1, -2, 3, -4, 5, -6], [MOST] * 6, [-MOST, MOST] * 3):
            for num, den in EDGE_MEANS:
                self.assertEqual(holds(price, num, den), [1])

    def test_the_largest_numbers(self):
        self.assertEqual(holds([0, MOST, 0, 0, 0, 0], 0, 1, (0, 1, 1000000)), [0])
        self.assertEqual(holds([0, -MOST, 0, 0, 0, 0], 0, 1, (0, 1, -1000000)), [1])
        self.assertEqual(holds([MOST, MOST, 0, 0, 0, 0], 0, 1, (0, 1, 0)), [1])
        self.assertEqual(holds([MOST - 1, MOST, 0, 0, 0, 0], 0, 1, (0, 1, 0)), [0])
        self.assertEqual(holds([MOST - 1, MOST, 0, 0, 0, 0], 0, 1, (0, 1, 1)), [1])
        self.assertEqual(holds([-MOST, 1 - MOST, 0, 0, 0, 0], 0, 1, (0, 1, 0)), [0])
        self.assertEqual(holds([-MOST, MOST, 0, 0, 0, 0], -1000000000, 1, (0, 1, 1000000)), [0])
        self.assertEqual(holds([MOST, -MOST, 0, 0, 0, 0], 1000000000, 1, (0, 1, -1000000)), [1])

    def test_means_at_the_edges(self):
        self.assertEqual(holds(NONE, 1000000000, 1000, (0, 0, 1000000)), [1])
        self.assertEqual(holds(NONE, 1000000000, 999, (0, 0, 1000000)), [0])
        self.assertEqual(holds(NONE, 1000000000, 1, (0, 0, 1000000)), [0])
        self.assertEqual(holds(NONE, -1000000000, 1000, (0, 0, -1000000)), [1])
        self.assertEqual(holds(NONE, -999999999, 1000, (0, 0, -1000000)), [0])
        self.assertEqual(holds(NONE, -1000000000, 1, (0, 0, -1000000)), [1])

    def test_the_prices_for_a_mean_and_by_one_off(self):
        for seed in range(200):
            roads = some_roads(seed)
            known = dict(enumerate(roads))
            num, den = seed % 13 - 9, 1 + seed % 5
            price = words.prices(known, num, den)
            for place in range(6):
                for by in (-1, 0, 1):
                    tried = [*price[:place], price[place] + by, *price[place + 1:]]
                    wanted = [int(words.hold(known, tried, num, den))]
                    self.assertEqual(holds(tried, num, den, *roads), wanted, (roads, tried, num, den))


class NotSixNumbers(unittest.TestCase):
    def test_five_seven_none_and_700(self):
        for size in (0, 1, 2, 3, 4, 5, 7, 8, 12, 60, 699, 700):
            for number in (0, -5, MOST, -MOST):
                for num, den in EDGE_MEANS:
                    self.assertEqual(holds([number] * size, num, den), [0])
                self.assertEqual(holds([number] * size, 10, 3, *TRIANGLE), [0])

    def test_prices_that_hold_with_one_fewer_or_more(self):
        price = [-7, -2, 0, 0, 0, 0]
        self.assertEqual(holds(price, 10, 3, *TRIANGLE), [1])
        self.assertEqual(holds(price[:5], 10, 3, *TRIANGLE), [0])
        self.assertEqual(holds(price[:3], 10, 3, *TRIANGLE), [0])
        self.assertEqual(holds([*price, 0], 10, 3, *TRIANGLE), [0])
        self.assertEqual(holds(price * 2, 10, 3, *TRIANGLE), [0])


class Refused(unittest.TestCase):
    def test_by_the_mean_ahead_of_all_else(self):
        for before in ([], adds(*TRIANGLE), full()):
            for price in (NONE, [], [0] * 5, [0] * 7, [-MOST, MOST] * 3, [MOST] * 6):
                for num, den in WRONG_MEANS:
                    check_refused(self, before, check_price(price, num, den), -1)

    def test_whatever_the_prices_are(self):
        for price in ([0] * 700, [MOST] * 700, [-MOST] * 699):
            for num, den in WRONG_MEANS:
                self.assertEqual(holds(price, num, den, *TRIANGLE), [-1])


class NothingChanges(unittest.TestCase):
    def test_check_price(self):
        for seed in range(60):
            before = adds(*some_roads(seed))
            for call in (check_price(NONE, 0, 1), check_price([], 0, 1), check_price([-MOST] * 6, -1000000000, 1)):
                check_changes_nothing(self, before, call, last(*before, call))


if __name__ == "__main__":
    unittest.main()
