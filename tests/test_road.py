import unittest

from asking import MOST, VIEW, add, ask, check_refused, drop, full, last, road


class Answered(unittest.TestCase):
    def test_from_where_to_where_its_cost(self):
        self.assertEqual(last(add(1, 2, 3), road(0)), [1, 2, 3])
        self.assertEqual(last(add(0, 0, 0), road(0)), [0, 0, 0])
        self.assertEqual(last(add(5, 5, -1000000), road(0)), [5, 5, -1000000])

    def test_each_of_ten(self):
        rows = ask(*full(), *[road(e) for e in range(10)])
        self.assertEqual(rows[10:], [call[1:] for call in full()])

    def test_telling_changes_nothing(self):
        rows = ask(*full(), *VIEW, *VIEW)
        self.assertEqual(rows[10:10 + len(VIEW)], rows[10 + len(VIEW):])


class Refused(unittest.TestCase):
    def test_above_9(self):
        for before in ([], [add(0, 0, 0)], full()):
            for e in (10, 11, 1000000, MOST - 1, MOST):
                check_refused(self, before, road(e), -1)

    def test_no_such_road(self):
        for e in range(10):
            check_refused(self, [], road(e), -3)
            check_refused(self, [*full(), drop(e)], road(e), -3)


if __name__ == "__main__":
    unittest.main()
