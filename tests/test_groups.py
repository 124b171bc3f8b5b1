"""The most events that are in a row, and the most that are apart."""

import unittest

from tests.helper import NO_LINES, THREE_HEAR_OF_TWO, ask, telling


def most(size, pairs):
    """What row and apart answer."""
    return ask(*telling(size, pairs), ("row",), ("apart",))[len(pairs) + 1:]


class RowAndApart(unittest.TestCase):

    def test_one_event_is_both(self):
        self.assertEqual(most(1, []), [[1, 0], [1, 0]])

    def test_nothing_told(self):
        for size in range(1, 7):
            self.assertEqual(most(size, []), [[1, 0], [size] + list(range(size))])

    def test_all_in_one_row(self):
        for size in range(1, 7):
            pairs = [(event + 1, event) for event in range(size - 1)]
            self.assertEqual(most(size, pairs), [[size] + list(range(size)), [1, 0]])

    def test_they_are_rising_however_they_came(self):
        self.assertEqual(most(5, [(4, 1), (1, 3)]), [[3, 1, 3, 4], [3, 0, 1, 2]])

    def test_the_most_events_ahead_of_the_least_number(self):
        self.assertEqual(most(6, [(0, 1), (5, 3), (3, 4)]), [[3, 3, 4, 5], [3, 0, 2, 3]])
        self.assertEqual(most(4, [(0, 1), (0, 2), (0, 3)]), [[2, 0, 1], [3, 1, 2, 3]])

    def test_of_as_many_the_least_number_that_not_both_have(self):
        self.assertEqual(most(4, [(3, 1), (0, 2)]), [[2, 0, 2], [2, 0, 1]])
        # 0 and 5 come to more than 1 and 2, and yet 0 is the least.
        self.assertEqual(most(6, [(1, 2), (5, 0)]), [[2, 0, 5], [4, 0, 1, 3, 4]])

    def test_what_both_have_does_not_count(self):
        self.assertEqual(most(6, [(0, 3), (3, 4), (0, 5), (5, 1)]), [[3, 0, 1, 5], [3, 1, 2, 3]])

    def test_what_follows_counts(self):
        self.assertEqual(most(3, [(0, 2), (2, 1)]), [[3, 0, 1, 2], [1, 0]])
        self.assertEqual(most(4, [(3, 0), (0, 2)]), [[3, 0, 2, 3], [2, 0, 1]])

    def test_any_two_and_not_some_two(self):
        # Both 1 and 2 hear of 0, yet they are apart.
        self.assertEqual(most(3, [(0, 1), (0, 2)]), [[2, 0, 1], [2, 1, 2]])

    def test_on_no_line(self):
        self.assertEqual(most(6, THREE_HEAR_OF_TWO), [[2, 0, 3], [3, 0, 1, 2]])
        self.assertEqual(most(6, NO_LINES[1]), [[3, 0, 1, 2], [3, 1, 3, 5]])

    def test_turned_they_are_the_same(self):
        for pairs in (THREE_HEAR_OF_TWO, [(4, 1), (1, 3)], [(0, 3), (3, 4), (0, 5), (5, 1)]):
            self.assertEqual(most(6, [(j, i) for i, j in pairs]), most(6, pairs))
            found = ask(*telling(6, pairs), ("turn",), ("row",), ("apart",))
            self.assertEqual(found[-2:], most(6, pairs))

    def test_without_one(self):
        found = ask(*telling(4, [(0, 1), (1, 2)]), ("without", 1), ("row",), ("apart",))
        self.assertEqual(found[3:], [[3], [2, 0, 1], [2, 0, 2]])
