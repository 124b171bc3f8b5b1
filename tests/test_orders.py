import itertools
import unittest

from tests.helper import GREATEST, ask, first_difference, last, telling


def every_order(calls):
    """All orders that are answered, by number, as far as there are any."""
    count = last(*calls, ("orders",))[0]
    found = []
    for k in range(count):
        found.append(last(*calls, ("order", k)))
    return found


class Orders(unittest.TestCase):

    def test_nothing_told(self):
        for size, count in ((1, 1), (2, 2), (3, 6), (4, 24), (5, 120), (6, 720)):
            self.assertEqual(last(("begin", size), ("orders",)), [count])

    def test_all_in_one_row(self):
        for size in range(1, 7):
            row = [(event, event + 1) for event in range(size - 1)]
            self.assertEqual(last(*telling(size, row), ("orders",)), [1])

    def test_one_pair_halves_them(self):
        self.assertEqual(last(*telling(6, [(4, 2)]), ("orders",)), [360])

    def test_each_of_three_hears_of_two(self):
        pairs = [(0, 3), (1, 3), (1, 4), (2, 4), (2, 5), (0, 5)]
        self.assertEqual(last(*telling(6, pairs), ("orders",)), [48])

    def test_a_pair_that_follows_tells_no_more(self):
        self.assertEqual(last(*telling(4, [(0, 1), (1, 2)]), ("orders",)), [4])
        self.assertEqual(last(*telling(4, [(0, 1), (1, 2), (0, 2)]), ("orders",)), [4])

    def test_turned_there_are_as_many(self):
        calls = telling(5, [(0, 1), (0, 2), (0, 3)])
        self.assertEqual(ask(*calls, ("orders",), ("turn",), ("orders",))[4:], [[30], [3], [30]])


class Order(unittest.TestCase):

    def test_one_event(self):
        self.assertEqual(ask(("begin", 1), ("order", 0), ("order", 1)), [[0], [1, 0], [-2]])

    def test_all_in_order(self):
        found = every_order(telling(4, [(3, 1), (0, 2)]))
        self.assertEqual(found, [
            [4, 0, 2, 3, 1], [4, 0, 3, 1, 2], [4, 0, 3, 2, 1], [4, 3, 0, 1, 2], [4, 3, 0, 2, 1], [4, 3, 1, 0, 2],
        ])

    def test_all_in_one_row(self):
        calls = telling(6, [(5, 0), (0, 4), (4, 1), (1, 3), (3, 2)])
        self.assertEqual(ask(*calls, ("order", 0), ("order", 1))[6:], [[6, 5, 0, 4, 1, 3, 2], [-2]])

    def test_all_of_six_events(self):
        wanted = [[6] + list(row) for row in itertools.permutations(range(6))]
        for begin in range(0, 720, 240):
            found = ask(("begin", 6), *[("order", k) for k in range(begin, begin + 240)])
            self.assertIsNone(first_difference(found[1:], wanted[begin:begin + 240]))

    def test_there_are_no_more_of_six_events(self):
        found = ask(("begin", 6), ("order", 719), ("order", 720), ("order", 721), ("order", GREATEST))
        self.assertEqual(found[1:], [[6, 5, 4, 3, 2, 1, 0], [-2], [-2], [-2]])

    def test_no_more_than_there_are(self):
        for size, count in ((1, 1), (2, 2), (3, 6), (4, 24), (5, 120)):
            found = ask(("begin", size), ("order", count - 1), ("order", count), ("order", GREATEST))
            self.assertEqual(found[1:], [[size] + list(range(size))[::-1], [-2], [-2]])

    def test_fewer_once_a_pair_is_told(self):
        found = ask(("begin", 3), ("order", 5), ("tell", 0, 1), ("order", 5), ("order", 3), ("order", 2))
        self.assertEqual(found[1:], [[3, 2, 1, 0], [1], [-2], [-2], [3, 2, 0, 1]])

    def test_turned(self):
        found = ask(*telling(3, [(0, 1), (0, 2)]), ("order", 0), ("order", 1), ("turn",), ("order", 0), ("order", 1))
        self.assertEqual(found[3:], [[3, 0, 1, 2], [3, 0, 2, 1], [2], [3, 1, 2, 0], [3, 2, 1, 0]])

    def test_without_one(self):
        found = ask(*telling(3, [(2, 1), (1, 0)]), ("without", 1), ("orders",), ("order", 0), ("order", 1))
        self.assertEqual(found[3:], [[2], [1], [2, 1, 0], [-2]])
