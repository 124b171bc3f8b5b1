import itertools
import unittest

from tests.helper import GREATEST, THREE_HEAR_OF_TWO, Unchanged, ask, first_difference, last, telling

TWO_APART = [(3, 1), (0, 2)]


def every_order(calls):
    """All orders that are answered, by number, as far as there are any."""
    count = last(*calls, ("orders",))[0]
    found = []
    for k in range(count):
        found.append(last(*calls, ("order", k)))
    return found


class Orders(unittest.TestCase):

    def test_nothing_told(self):
        for size, count in ((1, 1), (2, 2), (3, 6), (4, 24), (5, 120), (6, 720)):
            self.assertEqual(last(("begin", size), ("orders",)), [count])

    def test_all_in_one_row(self):
        for size in range(1, 7):
            row = [(event, event + 1) for event in range(size - 1)]
            self.assertEqual(last(*telling(size, row), ("orders",)), [1])

    def test_one_pair_halves_them(self):
        self.assertEqual(last(*telling(6, [(4, 2)]), ("orders",)), [360])

    def test_each_of_three_hears_of_two(self):
        self.assertEqual(last(*telling(6, THREE_HEAR_OF_TWO), ("orders",)), [48])

    def test_a_pair_that_follows_tells_no_more(self):
        self.assertEqual(last(*telling(4, [(0, 1), (1, 2)]), ("orders",)), [4])
        self.assertEqual(last(*telling(4, [(0, 1), (1, 2), (0, 2)]), ("orders",)), [4])

    def test_turned_there_are_as_many(self):
        calls = telling(5, [(0, 1), (0, 2), (0, 3)])
        self.assertEqual(ask(*calls, ("orders",), ("turn",), ("orders",))[4:], [[30], [3], [30]])


class Order(unittest.TestCase):

    def test_one_event(self):
        self.assertEqual(ask(("begin", 1), ("order", 0), ("order", 1)), [[0], [1, 0], [-2]])

    def test_all_in_order(self):
        found = every_order(telling(4, TWO_APART))
        self.assertEqual(found, [
            [4, 0, 2, 3, 1], [4, 0, 3, 1, 2], [4, 0, 3, 2, 1], [4, 3, 0, 1, 2], [4, 3, 0, 2, 1], [4, 3, 1, 0, 2],
        ])

    def test_all_in_one_row(self):
        calls = telling(6, [(5, 0), (0, 4), (4, 1), (1, 3), (3, 2)])
        self.assertEqual(ask(*calls, ("order", 0), ("order", 1))[6:], [[6, 5, 0, 4, 1, 3, 2], [-2]])

    def test_all_of_six_events(self):
        wanted = [[6] + list(row) for row in itertools.permutations(range(6))]
        for begin in range(0, 720, 240):
            found = ask(("begin", 6), *[("order", k) for k in range(begin, begin + 240)])
            self.assertIsNone(first_difference(found[1:], wanted[begin:begin + 240]))

    def test_there_are_no_more_of_six_events(self):
        found = ask(("begin", 6), ("order", 719), ("order", 720), ("order", 721), ("order", GREATEST))
        self.assertEqual(found[1:], [[6, 5, 4, 3, 2, 1, 0], [-2], [-2], [-2]])

    def test_no_more_than_there_are(self):
        for size, count in ((1, 1), (2, 2), (3, 6), (4, 24), (5, 120)):
            found = ask(("begin", size), ("order", count - 1), ("order", count), ("order", GREATEST))
            self.assertEqual(found[1:], [[size] + list(range(size))[::-1], [-2], [-2]])

    def test_fewer_once_a_pair_is_told(self):
        found = ask(("begin", 3), ("order", 5), ("tell", 0, 1), ("order", 5), ("order", 3), ("order", 2))
        self.assertEqual(found[1:], [[3, 2, 1, 0], [1], [-2], [-2], [3, 2, 0, 1]])

    def test_turned(self):
        found = ask(*telling(3, [(0, 1), (0, 2)]), ("order", 0), ("order", 1), ("turn",), ("order", 0), ("order", 1))
        self.assertEqual(found[3:], [[3, 0, 1, 2], [3, 0, 2, 1], [2], [3, 1, 2, 0], [3, 2, 1, 0]])

    def test_without_one(self):
        found = ask(*telling(3, [(2, 1), (1, 0)]), ("without", 1), ("orders",), ("order", 0), ("order", 1))
        self.assertEqual(found[3:], [[2], [1], [2, 1, 0], [-2]])


class Fits(Unchanged):

    def test_just_the_orders_in_which_they_may_have_come(self):
        fitting = [[0, 2, 3, 1], [0, 3, 1, 2], [0, 3, 2, 1], [3, 0, 1, 2], [3, 0, 2, 1], [3, 1, 0, 2]]
        rows = [list(row) for row in itertools.permutations(range(4))]
        found = ask(*telling(4, TWO_APART), *[("fits", row) for row in rows])[3:]
        self.assertEqual(found, [[int(row in fitting)] for row in rows])

    def test_nothing_told_any_order_fits(self):
        for size in range(1, 7):
            rows = [list(row) for row in itertools.permutations(range(size))][-200:]
            found = ask(("begin", size), *[("fits", row) for row in rows])
            self.assertEqual(found[1:], [[1]] * len(rows))

    def test_all_in_one_row_one_order_fits(self):
        calls = telling(5, [(4, 2), (2, 0), (0, 3), (3, 1)])
        rows = [list(row) for row in itertools.permutations(range(5))]
        found = ask(*calls, *[("fits", row) for row in rows])[5:]
        self.assertEqual([row for row, answer in zip(rows, found) if answer == [1]], [[4, 2, 0, 3, 1]])
        self.assertEqual(found.count([0]), 119)

    def test_what_follows_counts_even_if_others_lie_between(self):
        calls = telling(4, [(0, 1), (1, 2)])
        found = ask(*calls, ("fits", [0, 1, 3, 2]), ("fits", [2, 3, 0, 1]), ("fits", [3, 0, 2, 1]))
        self.assertEqual(found[3:], [[1], [0], [0]])

    def test_an_empty_row(self):
        for size in range(1, 7):
            self.refused(telling(size, []), ("fits", []), -22)

    def test_too_short(self):
        for size in range(2, 7):
            for missing in range(size):
                row = [event for event in range(size) if event != missing]
                self.refused(telling(size, [(0, 1)]), ("fits", row), -22)
        self.refused(telling(6, []), ("fits", [0]), -22)

    def test_too_long(self):
        for size in range(1, 7):
            for more in range(1, 17 - size):
                self.refused(telling(size, []), ("fits", list(range(size + more))), -22)
            self.refused(telling(size, []), ("fits", list(range(size)) + [0]), -22)
            self.refused(telling(size, []), ("fits", list(range(size)) + [65535]), -22)
            self.refused(telling(size, []), ("fits", ([65535] * 16 + list(range(size)))[-16:]), -22)

    def test_an_event_twice(self):
        for size in range(2, 7):
            for place in range(size - 1):
                row = list(range(size))
                row[place] = row[place + 1]
                self.refused(telling(size, []), ("fits", row), -22)
                self.refused(telling(size, []), ("fits", [place] * size), -22)
                self.refused(telling(size, []), ("fits", list(range(size)) + [place]), -22)
        self.refused(telling(1, []), ("fits", [0, 0]), -22)
        # These have the same sum as all events, each once.
        self.refused(telling(3, []), ("fits", [1, 1, 1]), -22)
        self.refused(telling(4, []), ("fits", [0, 0, 3, 3]), -22)

    def test_a_number_that_is_no_event(self):
        for size in range(1, 7):
            for wrong in (size, size + 1, 255, 256, 32768, 65535):
                for place in range(size):
                    row = list(range(size))
                    row[place] = wrong
                    self.refused(telling(size, []), ("fits", row), -22)

    def test_not_as_told_comes_ahead_of_not_fitting(self):
        self.refused(telling(3, [(0, 1)]), ("fits", [1, 0]), -22)
        self.refused(telling(3, [(0, 1)]), ("fits", [1, 0, 3]), -22)
        self.refused(telling(3, [(0, 1)]), ("fits", [1, 0, 2, 2]), -22)

    def test_events_gone_are_none_any_more(self):
        found = ask(*telling(3, [(2, 0)]), ("fits", [1, 2, 0]), ("without", 1), ("fits", [1, 2, 0]), ("fits", [1, 0]),
                    ("fits", [0, 1]))
        self.assertEqual(found[2:], [[1], [2], [-22], [1], [0]])

    def test_what_stands_behind_a_row_is_the_next_call(self):
        for count in range(17):
            for number in (0, 5, 12, 22, 65535):
                found = ask(("begin", 6), ("fits", [number] * count), ("state",), ("fits", [0, 1, 2, 3, 4, 5]))
                self.assertEqual(found, [[0], [-22], [6, 0, 0], [1]])


class Sooner(Unchanged):

    def test_in_how_many_and_how_many_there_are(self):
        every = list(itertools.permutations(range(4), 2))
        wanted = [[5, 6], [6, 6], [3, 6], [1, 6], [3, 6], [0, 6], [0, 6], [3, 6], [1, 6], [3, 6], [6, 6], [5, 6]]
        found = ask(*telling(4, TWO_APART), *[("sooner", i, j) for i, j in every])[3:]
        self.assertEqual(found, wanted)

    def test_nothing_told_half_of_them(self):
        for size, count in ((2, 2), (3, 6), (4, 24), (5, 120), (6, 720)):
            for i, j in itertools.permutations(range(size), 2):
                self.assertEqual(last(("begin", size), ("sooner", i, j)), [count // 2, count])

    def test_heard_in_all_or_in_none(self):
        calls = telling(6, [(5, 4), (4, 3)])
        self.assertEqual(ask(*calls, ("sooner", 5, 3), ("sooner", 3, 5))[3:], [[120, 120], [0, 120]])

    def test_all_in_one_row(self):
        calls = telling(3, [(2, 0), (0, 1)])
        self.assertEqual(ask(*calls, ("sooner", 2, 1), ("sooner", 1, 0))[3:], [[1, 1], [0, 1]])

    def test_no_such_event(self):
        for size in range(1, 7):
            for wrong in (size, size + 1, GREATEST):
                for i, j in ((0, wrong), (wrong, 0), (wrong, size + 2)):
                    self.refused(telling(size, []), ("sooner", i, j), -2)

    def test_the_same(self):
        for size in range(1, 7):
            for event in range(size):
                self.refused(telling(size, []), ("sooner", event, event), -22)

    def test_no_such_event_comes_ahead_of_the_same(self):
        for size in range(1, 7):
            for wrong in (size, GREATEST):
                self.refused(telling(size, []), ("sooner", wrong, wrong), -2)


class Place(Unchanged):

    def test_from_the_first_on(self):
        found = ask(*telling(4, TWO_APART), *[("place", event) for event in range(4)])[3:]
        self.assertEqual(found, [[4, 3, 2, 1, 0], [4, 0, 1, 2, 3], [4, 0, 1, 2, 3], [4, 3, 2, 1, 0]])

    def test_nothing_told_as_often_at_each(self):
        for size, count in ((1, 1), (2, 1), (3, 2), (4, 6), (5, 24), (6, 120)):
            for event in range(size):
                self.assertEqual(last(("begin", size), ("place", event)), [size] + [count] * size)

    def test_all_in_one_row(self):
        calls = telling(4, [(2, 0), (0, 3), (3, 1)])
        self.assertEqual(ask(*calls, ("place", 2), ("place", 0), ("place", 3), ("place", 1))[4:], [
            [4, 1, 0, 0, 0], [4, 0, 1, 0, 0], [4, 0, 0, 1, 0], [4, 0, 0, 0, 1],
        ])

    def test_one_that_all_hear_of(self):
        calls = telling(6, [(2, event) for event in (0, 1, 3, 4, 5)])
        self.assertEqual(ask(*calls, ("place", 2), ("place", 5))[6:], [[6, 120, 0, 0, 0, 0, 0], [6, 0] + [24] * 5])

    def test_no_such_event(self):
        for size in range(1, 7):
            for wrong in (size, size + 1, GREATEST):
                self.refused(telling(size, []), ("place", wrong), -2)
