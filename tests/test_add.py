import unittest

from asking import MOST, add, ask, check_refused, count, drop, full, last, road, view_after

TOWNS_THAT_CANNOT_BE = (6, 7, 9, 10, 1000000, MOST - 1, MOST)
COSTS_THAT_CANNOT_BE = (1000001, -1000001, 1000002, -1000002, 2000000, -2000000, MOST, -MOST)


class Answered(unittest.TestCase):
    def test_numbers_from_0_on(self):
        self.assertEqual(ask(*full()), [[e] for e in range(10)])

    def test_leads_from_u_to_v(self):
        self.assertEqual(ask(add(2, 4, 17), road(0)), [[0], [2, 4, 17]])
        self.assertEqual(ask(add(4, 2, -17), road(0)), [[0], [4, 2, -17]])

    def test_each_pair_of_towns(self):
        for u in range(6):
            for v in range(6):
                self.assertEqual(ask(add(u, v, 3), road(0)), [[0], [u, v, 3]])

    def test_costs_at_the_edges(self):
        for new in (-1000000, -999999, -1, 0, 1, 999999, 1000000):
            self.assertEqual(ask(add(0, 1, new), road(0)), [[0], [0, 1, new]])

    def test_several_roads_between_the_same_towns(self):
        rows = ask(add(1, 3, 8), add(1, 3, 8), add(1, 3, -8), road(0), road(1), road(2), count())
        self.assertEqual(rows, [[0], [1], [2], [1, 3, 8], [1, 3, 8], [1, 3, -8], [3]])

    def test_ten_roads_from_a_town_to_itself(self):
        self.assertEqual(view_after(*[add(5, 5, 0)] * 10), [[5, 5, 0]] * 10 + [[10]])

    def test_lowest_free_after_each_drop(self):
        for e in range(10):
            rows = ask(*full(), drop(e), add(5, 0, 9), road(e), count())
            self.assertEqual(rows[10:], [[0], [e], [5, 0, 9], [10]])

    def test_lowest_of_several_free(self):
        rows = ask(*full(), drop(7), drop(2), drop(4), *[add(0, 0, 0)] * 3)
        self.assertEqual(rows[13:], [[2], [4], [7]])

    def test_lowest_free_with_few_roads(self):
        rows = ask(add(0, 1, 1), add(1, 2, 2), add(2, 3, 3), drop(1), add(3, 4, 4), add(4, 5, 5))
        self.assertEqual([row[0] for row in rows], [0, 1, 2, 0, 1, 3])

    def test_other_roads_stay(self):
        before = view_after(*full(), drop(3))
        after = view_after(*full(), drop(3), add(0, 5, -12))
        self.assertEqual(after[3], [0, 5, -12])
        self.assertEqual(before[:3] + before[4:10], after[:3] + after[4:10])


class Refused(unittest.TestCase):
    def test_towns_that_cannot_be(self):
        for before in ([], [add(1, 2, 3)], full()[:9], full()):
            for town in TOWNS_THAT_CANNOT_BE:
                for call in (add(town, 0, 0), add(0, town, 0), add(town, town, 5)):
                    check_refused(self, before, call, -1)

    def test_costs_that_cannot_be(self):
        for before in ([], [add(1, 2, 3)], full()[:9], full()):
            for new in COSTS_THAT_CANNOT_BE:
                check_refused(self, before, add(5, 0, new), -1)

    def test_all_wrong_at_once(self):
        check_refused(self, [], add(MOST, MOST, -MOST), -1)
        check_refused(self, full(), add(MOST, MOST, MOST), -1)

    def test_ten_roads(self):
        for call in (add(0, 0, 0), add(5, 5, 1000000), add(5, 0, -1000000)):
            check_refused(self, full(), call, -2)

    def test_ten_roads_again_after_a_drop(self):
        rows = ask(*full(), add(0, 1, 1), drop(6), add(0, 1, 1), add(0, 1, 1), count())
        self.assertEqual(rows[10:], [[-2], [0], [6], [-2], [10]])

    def test_nine_roads_are_not_ten(self):
        self.assertEqual(last(*full()[:9], add(0, 1, 1)), [9])


if __name__ == "__main__":
    unittest.main()
