import unittest

from asking import MOST, add, ask, check_refused, count, drop, full, road, view_after


class Answered(unittest.TestCase):
    def test_the_road_is_gone(self):
        self.assertEqual(ask(add(0, 1, 2), drop(0), road(0), count()), [[0], [0], [-3], [0]])

    def test_each_of_ten(self):
        before = view_after(*full())
        for e in range(10):
            self.assertEqual(ask(*full(), drop(e))[-1], [0])
            self.assertEqual(view_after(*full(), drop(e)), before[:e] + [[-3]] + before[e + 1:10] + [[9]])

    def test_all_of_ten(self):
        for order in (range(10), range(9, -1, -1), (5, 0, 9, 3, 1, 8, 2, 7, 4, 6)):
            rows = ask(*full(), *[drop(e) for e in order], count())
            self.assertEqual(rows[10:], [[0]] * 11)

    def test_other_roads_between_the_same_towns_stay(self):
        rows = ask(add(1, 2, 3), add(1, 2, 3), drop(0), road(0), road(1), count())
        self.assertEqual(rows[2:], [[0], [-3], [1, 2, 3], [1]])


class Refused(unittest.TestCase):
    def test_above_9(self):
        for before in ([], [add(0, 0, 0)], full()):
            for e in (10, 11, 12, 20, 1000000, MOST - 1, MOST):
                check_refused(self, before, drop(e), -1)

    def test_no_such_road(self):
        for e in range(10):
            check_refused(self, [], drop(e), -3)
            check_refused(self, [*full(), drop(e)], drop(e), -3)
        for e in range(1, 10):
            check_refused(self, [add(0, 1, 2)], drop(e), -3)


if __name__ == "__main__":
    unittest.main()
