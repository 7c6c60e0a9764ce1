import unittest

from asking import MOST, add, ask, check_refused, cost, drop, full, road, view_after

COSTS_THAT_CANNOT_BE = (1000001, -1000001, 1000002, -1000002, MOST, -MOST)


class Answered(unittest.TestCase):
    def test_that_is_the_cost(self):
        self.assertEqual(ask(add(3, 4, 5), cost(0, 6), road(0)), [[0], [0], [3, 4, 6]])

    def test_costs_at_the_edges(self):
        for new in (-1000000, -999999, -1, 0, 1, 999999, 1000000):
            self.assertEqual(ask(add(5, 0, 7), cost(0, new), road(0)), [[0], [0], [5, 0, new]])

    def test_the_same_cost_again(self):
        self.assertEqual(ask(add(5, 0, 7), cost(0, 7), road(0)), [[0], [0], [5, 0, 7]])

    def test_each_of_ten_and_no_other(self):
        before = view_after(*full())
        for e in range(10):
            changed = [*before[e][:2], -31]
            self.assertEqual(ask(*full(), cost(e, -31))[-1], [0])
            self.assertEqual(view_after(*full(), cost(e, -31)), before[:e] + [changed] + before[e + 1:])

    def test_the_last_one_counts(self):
        rows = ask(add(0, 0, 1), cost(0, 2), cost(0, 1000001), cost(0, 3), road(0))
        self.assertEqual(rows, [[0], [0], [-1], [0], [0, 0, 3]])

    def test_gone_with_the_road(self):
        rows = ask(add(0, 1, 1), cost(0, 9), drop(0), add(2, 3, 4), road(0))
        self.assertEqual(rows[3:], [[0], [2, 3, 4]])


class Refused(unittest.TestCase):
    def test_above_9(self):
        for before in ([], [add(0, 0, 0)], full()):
            for e in (10, 11, 1000000, MOST):
                check_refused(self, before, cost(e, 4), -1)

    def test_costs_that_cannot_be(self):
        for new in COSTS_THAT_CANNOT_BE:
            for e in (0, 4, 9):
                check_refused(self, full(), cost(e, new), -1)

    def test_a_cost_that_cannot_be_ahead_of_no_such_road(self):
        for new in COSTS_THAT_CANNOT_BE:
            for e in (0, 4, 9):
                check_refused(self, [], cost(e, new), -1)
                check_refused(self, [*full(), drop(e)], cost(e, new), -1)

    def test_both_wrong(self):
        check_refused(self, [], cost(10, 1000001), -1)
        check_refused(self, full(), cost(MOST, -MOST), -1)

    def test_no_such_road(self):
        for new in (-1000000, 0, 4, 1000000):
            for e in range(10):
                check_refused(self, [], cost(e, new), -3)
                check_refused(self, [*full(), drop(e)], cost(e, new), -3)


if __name__ == "__main__":
    unittest.main()
