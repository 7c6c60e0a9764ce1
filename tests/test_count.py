import unittest

from asking import add, ask, cost, count, drop, full


class Count(unittest.TestCase):
    def test_none_at_the_beginning(self):
        self.assertEqual(ask(count(), count()), [[0], [0]])

    def test_after_each_add(self):
        rows = ask(*[call for new in full() for call in (new, count())])
        self.assertEqual(rows[1::2], [[n] for n in range(1, 11)])

    def test_after_each_drop(self):
        rows = ask(*full(), *[call for e in (4, 0, 9, 2, 1, 3, 5, 8, 6, 7) for call in (drop(e), count())])
        self.assertEqual(rows[11::2], [[n] for n in range(9, -1, -1)])

    def test_with_free_numbers_between(self):
        self.assertEqual(ask(*full(), drop(0), drop(5), count())[-1], [8])
        self.assertEqual(ask(*full(), *[drop(e) for e in range(9)], count())[-1], [1])

    def test_after_what_leaves_the_number_of_roads(self):
        calls = [add(0, 1, 0), cost(0, 5), add(6, 0, 0), drop(1), drop(10), cost(0, 1000001)]
        self.assertEqual(ask(*calls, count())[-1], [1])

    def test_after_an_add_that_has_no_place(self):
        self.assertEqual(ask(*full(), add(0, 0, 0), count())[-2:], [[-2], [10]])


if __name__ == "__main__":
    unittest.main()
