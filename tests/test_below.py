import unittest
from fractions import Fraction

import words
from asking import (EDGE_MEANS, WRONG_MEANS, add, adds, ask, below, check_changes_nothing, check_refused, full, last,
                    least)
from making import some_roads


def below_of(num, den, *roads):
    return last(*adds(*roads), below(num, den))


TRIANGLE = ((0, 1, 5), (1, 2, 4), (2, 0, 1))


class ARoundBelow(unittest.TestCase):
    def test_just_above_just_at_and_just_below(self):
        # The mean is 10 / 3.
        self.assertEqual(below_of(3331, 999, *TRIANGLE), [3, 0, 1, 2])
        self.assertEqual(below_of(3330, 999, *TRIANGLE)[0], 0)
        self.assertEqual(below_of(3329, 999, *TRIANGLE)[0], 0)
        self.assertEqual(below_of(10, 3, *TRIANGLE)[0], 0)
        self.assertEqual(below_of(11, 3, *TRIANGLE), [3, 0, 1, 2])

    def test_just_at_and_above_with_costs_below_0(self):
        self.assertEqual(below_of(-3, 2, (0, 1, -1), (1, 0, -2))[0], 0)
        self.assertEqual(below_of(-1499, 1000, (0, 1, -1), (1, 0, -2)), [2, 0, 1])
        self.assertEqual(below_of(-1500, 1000, (0, 1, -1), (1, 0, -2))[0], 0)
        self.assertEqual(below_of(-1501, 1000, (0, 1, -1), (1, 0, -2))[0], 0)

    def test_it_is_the_least_round(self):
        # Others are below too: a shorter one, one with lower numbers, one from a lower town on.
        roads = ((0, 0, 4), (1, 1, 3), (2, 3, 2), (3, 2, 1), (0, 1, 2), (1, 0, 2))
        self.assertEqual(below_of(100, 1, *roads), [2, 2, 3])
        self.assertEqual(below_of(2, 1, *roads), [2, 2, 3])
        self.assertEqual(below_of(3, 2, *roads)[0], 0)

    def test_ties(self):
        self.assertEqual(below_of(3, 1, (0, 1, 2), (1, 0, 2), (5, 5, 2)), [1, 2])
        self.assertEqual(below_of(9, 2, (1, 0, 4), (2, 3, 4), (3, 2, 4), (0, 1, 4)), [2, 1, 2])

    def test_around_the_least_mean_of_many(self):
        for seed in range(400):
            roads = some_roads(seed)
            told = last(*adds(*roads), least())
            if told[0]:
                times = 1 + seed % (1000 // told[2])
                num, den = told[1] * times, told[2] * times
                ring = [told[0], *told[3:3 + told[0]]]
                self.assertEqual(below_of(num + 1, den, *roads), ring, roads)
                for less in (0, 1, 2):
                    prices = words.prices(dict(enumerate(roads)), num - less, den)
                    self.assertEqual(below_of(num - less, den, *roads), [0, *prices], roads)


class NoneBelow(unittest.TestCase):
    def test_prices_at_the_mean(self):
        self.assertEqual(below_of(10, 3, *TRIANGLE), [0, -7, -2, 0, 0, 0, 0])
        self.assertEqual(below_of(7, 1, (3, 3, 7), (3, 4, -100)), [0, 0, 0, 0, 0, -107, 0])

    def test_num_and_den_as_they_are_handed_in(self):
        # 20 / 6 is 10 / 3, but its prices are twice as much.
        self.assertEqual(below_of(20, 6, *TRIANGLE), [0, -14, -4, 0, 0, 0, 0])
        self.assertEqual(below_of(0, 1, (0, 1, -4)), [0, 0, -4, 0, 0, 0, 0])
        self.assertEqual(below_of(0, 1000, (0, 1, -4)), [0, 0, -4000, 0, 0, 0, 0])

    def test_prices_under_the_mean(self):
        self.assertEqual(below_of(3, 1, *TRIANGLE), [0, -2, 0, 0, 0, 0, 0])
        self.assertEqual(below_of(1, 1, *TRIANGLE), [0, 0, 0, 0, 0, 0, 0])
        self.assertEqual(below_of(-1000000000, 1000, *TRIANGLE), [0, 0, 0, 0, 0, 0, 0])

    def test_no_roads(self):
        for num, den in (*EDGE_MEANS, (7, 3), (-7, 3)):
            self.assertEqual(below_of(num, den), [0, 0, 0, 0, 0, 0, 0])

    def test_no_round_prices_never_levels(self):
        chain = [(town, town + 1, 1) for town in range(5)]
        self.assertEqual(below_of(0, 1, *chain), [0, 0, 0, 0, 0, 0, 0])
        self.assertEqual(below_of(3, 1, *chain), [0, 0, -2, -4, -6, -8, -10])
        self.assertEqual(below_of(3, 1, *chain[::-1]), [0, 0, -2, -4, -6, -8, -10])
        self.assertEqual(below_of(3, 2, *chain), [0, 0, -1, -2, -3, -4, -5])
        self.assertEqual(below_of(1000000000, 1, *chain)[1:],
                         [-999999999 * town for town in range(6)])

    def test_no_round_many(self):
        seen = 0
        for seed in range(400):
            roads = some_roads(seed)
            known = dict(enumerate(roads))
            if not words.rounds(known):
                seen += 1
                for num, den in (*EDGE_MEANS, (seed, 7), (-seed, 11)):
                    self.assertEqual(below_of(num, den, *roads), [0, *words.prices(known, num, den)], roads)
        self.assertGreater(seen, 30)


class TheEdges(unittest.TestCase):
    def test_answered(self):
        roads = ((0, 1, 1000000), (1, 0, 999999))
        self.assertEqual(below_of(1000000000, 1, *roads), [2, 0, 1])
        self.assertEqual(below_of(1000000000, 1000, *roads), [2, 0, 1])
        self.assertEqual(below_of(999999500, 1000, *roads)[0], 0)
        self.assertEqual(below_of(999999501, 1000, *roads), [2, 0, 1])
        self.assertEqual(below_of(-1000000000, 1, *roads), [0] * 7)
        self.assertEqual(below_of(-1000000000, 1000, *roads), [0] * 7)

    def test_answered_with_the_least_cost(self):
        self.assertEqual(below_of(-1000000000, 1000, (4, 4, -1000000)), [0] * 7)
        self.assertEqual(below_of(-999999999, 1000, (4, 4, -1000000)), [1, 0])
        self.assertEqual(below_of(1000000000, 1000, (4, 4, 1000000)), [0] * 7)
        self.assertEqual(below_of(1000000000, 999, (4, 4, 1000000)), [1, 0])

    def test_refused(self):
        for before in ([], [add(0, 0, -5)], adds(*TRIANGLE), full()):
            for num, den in WRONG_MEANS:
                check_refused(self, before, below(num, den), -1)


class NothingChanges(unittest.TestCase):
    def test_below(self):
        for seed in range(60):
            before = adds(*some_roads(seed))
            for num, den in ((1000000000, 1), (-1000000000, 1), (0, 1), (0, 0)):
                check_changes_nothing(self, before, below(num, den), last(*before, below(num, den)))

    def test_asked_again(self):
        rows = ask(*adds(*TRIANGLE), *[below(10, 3), below(11, 3)] * 3)
        self.assertEqual(rows[3:5] * 3, rows[3:])


class BothCannotBe(unittest.TestCase):
    def test_a_round_or_prices(self):
        for seed in range(200):
            roads = some_roads(seed)
            known = dict(enumerate(roads))
            for num, den in ((seed % 9 - 4, 1 + seed % 4), (seed, 1), (-seed, 3)):
                told = below_of(num, den, *roads)
                if told[0]:
                    self.assertEqual(len(told), told[0] + 1)
                    self.assertIn(told[1:], words.rounds(known))
                    self.assertLess(words.mean(known, told[1:]), Fraction(num, den))
                else:
                    self.assertEqual(len(told), 7)
                    self.assertTrue(words.hold(known, told[1:], num, den))


if __name__ == "__main__":
    unittest.main()
