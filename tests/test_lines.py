"""Whether they can have happened on a line, and by how few orders it's told."""

import itertools
import unittest

from tests.helper import NO_LINES, THREE_HEAR_OF_TWO, ask, first_two_that_tell, last, renamed, telling


def on_a_line(size, pairs):
    """What line, events and fewest answer."""
    return ask(*telling(size, pairs), ("line",), ("events",), ("fewest",))[len(pairs) + 1:]


class OnALine(unittest.TestCase):

    def test_one_event(self):
        self.assertEqual(on_a_line(1, []), [[2, 0, 0], [1, 0, 0], [1]])

    def test_nothing_told(self):
        for size in range(2, 7):
            events = list(range(size))
            places = [place for event in events for place in (event, size - 1 - event)]
            self.assertEqual(on_a_line(size, []), [[2 * size] + events + events[::-1], [size] + places, [2]])

    def test_two_in_a_row(self):
        self.assertEqual(on_a_line(2, [(1, 0)]), [[4, 1, 0, 1, 0], [2, 1, 1, 0, 0], [1]])

    def test_all_in_one_row(self):
        self.assertEqual(on_a_line(4, [(2, 0), (0, 3), (3, 1)]), [
            [8, 2, 0, 3, 1, 2, 0, 3, 1], [4, 1, 1, 3, 3, 0, 0, 2, 2], [1],
        ])
        for size in range(1, 7):
            row = list(range(size))[::-1]
            places = [place for place in row for twice in range(2)]
            found = on_a_line(size, [(event + 1, event) for event in range(size - 1)])
            self.assertEqual(found, [[2 * size] + row + row, [size] + places, [1]])

    def test_all_but_two_in_one_row(self):
        self.assertEqual(on_a_line(3, [(0, 1), (0, 2)]), [[6, 0, 1, 2, 0, 2, 1], [3, 0, 0, 1, 2, 2, 1], [2]])

    def test_two_rows(self):
        # In the first 3 and 1 come behind 0 and 2, so they come ahead of them in the other.
        self.assertEqual(on_a_line(4, [(3, 1), (0, 2)]), [
            [8, 0, 2, 3, 1, 3, 1, 0, 2], [4, 0, 2, 3, 1, 1, 3, 2, 0], [2],
        ])

    def test_the_first_order_has_not_always_another(self):
        # Beside 0 1 2 there's none: 2 would come ahead of 1, 1 ahead of 0, and yet 0 ahead of 2.
        pairs = [(0, 2)]
        self.assertEqual(last(*telling(3, pairs), ("order", 0)), [3, 0, 1, 2])
        self.assertEqual(on_a_line(3, pairs), [[6, 0, 2, 1, 1, 0, 2], [3, 0, 1, 2, 0, 1, 2], [2]])

    def test_the_first_of_several(self):
        pairs = [(4, 2), (2, 0), (2, 3), (1, 3)]
        self.assertEqual(on_a_line(5, pairs), [
            [10, 1, 4, 2, 3, 0, 4, 2, 0, 1, 3], [5, 4, 2, 0, 3, 2, 1, 3, 4, 1, 0], [2],
        ])

    def test_what_follows_told_as_well_changes_nothing(self):
        pairs = [(4, 2), (2, 0), (2, 3), (1, 3)]
        self.assertEqual(on_a_line(5, pairs + [(4, 0), (4, 3)]), on_a_line(5, pairs))

    def test_each_of_three_hears_of_the_same_two_or_of_all(self):
        self.assertEqual(on_a_line(6, [(i, j) for i in range(3) for j in range(3, 6)])[2], [2])
        self.assertEqual(on_a_line(5, [(i, j) for i in range(2) for j in range(2, 5)])[2], [2])


class OnNoLine(unittest.TestCase):

    def test_each_of_three_hears_of_two_others(self):
        self.assertEqual(on_a_line(6, THREE_HEAR_OF_TWO), [[-33], [-33], [3]])

    def test_whatever_the_events_are_called(self):
        for pairs in NO_LINES:
            for names in itertools.permutations(range(6)):
                self.assertEqual(on_a_line(6, renamed(pairs, names)), [[-33], [-33], [3]])

    def test_turned_there_is_none_either(self):
        for pairs in NO_LINES:
            found = ask(*telling(6, pairs), ("turn",), ("line",), ("events",), ("fewest",))
            self.assertEqual(found[-3:], [[-33], [-33], [3]])

    def test_without_any_of_them_there_is_one(self):
        for pairs in NO_LINES:
            for event in range(6):
                found = ask(*telling(6, pairs), ("without", event), ("line",), ("events",), ("fewest",))[-3:]
                self.assertEqual([found[0][0], found[1][0], found[2]], [10, 5, [2]])

    def test_taken_back_there_is_none_again(self):
        found = ask(*telling(6, THREE_HEAR_OF_TWO), ("without", 0), ("fewest",), ("back",), ("line",), ("fewest",))
        self.assertEqual(found[7:], [[5], [2], [6], [-33], [3]])

    def test_one_pair_fewer_there_is_one(self):
        for i, j in THREE_HEAR_OF_TWO:
            found = ask(*telling(6, THREE_HEAR_OF_TWO), ("untell", i, j), ("line",), ("fewest",))
            self.assertEqual([found[-2][0], found[-1]], [12, [2]])
            row, other = first_two_that_tell(6, [pair for pair in THREE_HEAR_OF_TWO if pair != (i, j)])
            self.assertEqual(found[-2][1:], row + other)

    def test_a_refusal_is_its_number_alone(self):
        found = ask(*telling(6, THREE_HEAR_OF_TWO), ("events",), ("line",), ("state",))
        self.assertEqual(found[7:], [[-33], [-33], [6, 6, 6]])
