import unittest

from tests.helper import GREATEST, LOOKS, Unchanged, ask, flat, last, telling


class Tell(Unchanged):

    def test_how_many_are_told(self):
        self.assertEqual(ask(*telling(4, [(0, 1), (2, 3), (1, 3)])), [[0], [1], [2], [3]])

    def test_a_pair_that_follows_is_told_as_well(self):
        calls = telling(3, [(0, 1), (1, 2), (0, 2)])
        self.assertEqual(ask(*calls, ("told",)), [[0], [1], [2], [3], [3, 0, 1, 1, 2, 0, 2]])
        self.assertEqual(last(*calls, ("links",)), [2, 0, 1, 1, 2])

    def test_all_fifteen_pairs_of_six(self):
        pairs = [(i, j) for j in range(6) for i in range(j)]
        found = ask(*telling(6, pairs), ("told",), ("orders",))
        self.assertEqual(found[1:16], [[count] for count in range(1, 16)])
        self.assertEqual(found[16:], [flat(pairs), [1]])

    def test_no_such_event(self):
        for size in range(1, 7):
            for wrong in (size, size + 1, 65536, GREATEST):
                for i, j in ((0, wrong), (wrong, 0), (wrong, wrong), (wrong, 7)):
                    self.refused(telling(size, []), ("tell", i, j), -2)

    def test_the_same(self):
        for size in (1, 2, 6):
            for event in range(size):
                self.refused(telling(size, []), ("tell", event, event), -35)

    def test_no_such_event_comes_ahead_of_the_same(self):
        self.refused(telling(2, [(0, 1)]), ("tell", 2, 2), -2)

    def test_a_ring_of_two(self):
        self.refused(telling(2, [(0, 1)]), ("tell", 1, 0), -35)
        self.refused(telling(2, [(1, 0)]), ("tell", 0, 1), -35)

    def test_a_ring_of_more(self):
        row = [(0, 1), (1, 2), (2, 3), (3, 4), (4, 5)]
        for i in range(6):
            for j in range(i + 1):
                self.refused(telling(6, row), ("tell", i, j), -35)

    def test_a_ring_told_out_of_turn(self):
        self.refused(telling(6, [(4, 1), (2, 5), (5, 4), (1, 0)]), ("tell", 0, 2), -35)

    def test_told_already(self):
        self.refused(telling(3, [(0, 1), (1, 2)]), ("tell", 0, 1), -17)
        self.refused(telling(3, [(0, 1), (1, 2), (0, 2)]), ("tell", 0, 2), -17)
        self.refused(telling(2, [(1, 0)]), ("tell", 1, 0), -17)

    def test_after_a_refused_ring_the_rest_can_be_told(self):
        found = ask(*telling(3, [(0, 1), (1, 2)]), ("tell", 2, 0), ("tell", 0, 2), ("told",))
        self.assertEqual(found[3:], [[-35], [3], [3, 0, 1, 1, 2, 0, 2]])


class Untell(Unchanged):

    def test_how_many_are_told(self):
        found = ask(*telling(3, [(0, 1), (1, 2), (0, 2)]), ("untell", 1, 2), ("told",), ("untell", 0, 1), ("told",),
                    ("untell", 0, 2), ("told",))
        self.assertEqual(found[4:], [[2], [2, 0, 1, 0, 2], [1], [1, 0, 2], [0], [0]])

    def test_a_pair_untold_follows_still(self):
        calls = telling(3, [(0, 1), (0, 2), (1, 2)])
        found = ask(*calls, ("untell", 0, 2), ("told",), ("heard", 0, 2), ("pairs",))
        self.assertEqual(found[4:], [[2], [2, 0, 1, 1, 2], [1], [3, 0, 1, 0, 2, 1, 2]])

    def test_what_followed_by_it_alone_follows_no_more(self):
        found = ask(*telling(3, [(0, 1), (1, 2)]), ("untell", 0, 1), ("heard", 0, 2), ("pairs",), ("orders",))
        self.assertEqual(found[3:], [[1], [0], [1, 1, 2], [3]])

    def test_told_again_it_is_the_last(self):
        found = ask(*telling(3, [(0, 1), (1, 2)]), ("untell", 0, 1), ("tell", 0, 1), ("told",))
        self.assertEqual(found[3:], [[1], [2], [2, 1, 2, 0, 1]])

    def test_then_the_other_way_about(self):
        found = ask(*telling(2, [(0, 1)]), ("untell", 0, 1), ("tell", 1, 0), ("told",))
        self.assertEqual(found[2:], [[0], [1], [1, 1, 0]])

    def test_no_such_event(self):
        for wrong in (3, 4, GREATEST):
            for i, j in ((0, wrong), (wrong, 0), (wrong, wrong)):
                self.refused(telling(3, [(0, 1)]), ("untell", i, j), -2)

    def test_it_is_not_told(self):
        calls = telling(3, [(0, 1), (1, 2)])
        for i, j in ((0, 2), (1, 0), (2, 1), (2, 0), (0, 0), (2, 2)):
            self.refused(calls, ("untell", i, j), -33)
        self.refused(telling(1, []), ("untell", 0, 0), -33)
        self.refused(calls + [("untell", 0, 1)], ("untell", 0, 1), -33)


class Turn(unittest.TestCase):

    def test_each_pair_the_other_way_about(self):
        found = ask(*telling(4, [(2, 3), (0, 1), (1, 2)]), ("turn",), ("told",), ("pairs",))
        self.assertEqual(found[4:], [[3], [3, 3, 2, 1, 0, 2, 1], [6, 1, 0, 2, 0, 2, 1, 3, 0, 3, 1, 3, 2]])

    def test_nothing_told(self):
        for size in range(1, 7):
            self.assertEqual(ask(("begin", size), ("turn",), ("told",)), [[0], [0], [0]])

    def test_turned_twice_all_is_as_it_was(self):
        found = ask(*telling(5, [(4, 0), (0, 2), (4, 2), (1, 3)]), *LOOKS, ("turn",), ("turn",), *LOOKS)
        self.assertEqual(found[5:5 + len(LOOKS)], found[-len(LOOKS):])

    def test_what_was_a_ring_can_be_told(self):
        found = ask(*telling(3, [(0, 1), (1, 2)]), ("turn",), ("tell", 0, 2), ("tell", 2, 0), ("told",))
        self.assertEqual(found[3:], [[2], [-35], [3], [3, 1, 0, 2, 1, 2, 0]])


class Without(Unchanged):

    def test_how_many_are_left(self):
        found = ask(("begin", 6), *[("without", 0)] * 6)
        self.assertEqual(found, [[0], [5], [4], [3], [2], [1], [-6]])

    def test_what_was_heard_through_it_is_told(self):
        found = ask(*telling(3, [(0, 1), (1, 2)]), ("without", 1), ("told",))
        self.assertEqual(found[3:], [[2], [1, 0, 1]])

    def test_those_behind_it_are_numbered_one_less(self):
        pairs = [(5, 3), (3, 1), (1, 0), (2, 4)]
        left = (
            [(1, 3), (2, 0), (4, 0), (4, 2)],
            [(1, 3), (2, 0), (4, 0), (4, 2)],
            [(1, 0), (2, 0), (2, 1), (4, 0), (4, 1), (4, 2)],
            [(1, 0), (2, 3), (4, 0), (4, 1)],
            [(1, 0), (3, 0), (3, 1), (4, 0), (4, 1), (4, 3)],
            [(1, 0), (2, 4), (3, 0), (3, 1)],
        )
        for event in range(6):
            self.assertEqual(ask(*telling(6, pairs), ("without", event), ("told",))[5:], [[5], flat(left[event])])

    def test_all_that_follows_is_told_in_order(self):
        found = ask(*telling(4, [(2, 3), (1, 2), (0, 1)]), ("without", 3), ("told",), ("links",))
        self.assertEqual(found[4:], [[3], [3, 0, 1, 0, 2, 1, 2], [2, 0, 1, 1, 2]])

    def test_what_then_is_told_can_be_untold(self):
        found = ask(*telling(4, [(0, 1), (1, 2), (2, 3)]), ("without", 0), ("untell", 0, 2), ("untell", 0, 1),
                    ("pairs",))
        self.assertEqual(found[4:], [[3], [2], [1], [1, 1, 2]])

    def test_no_such_event_any_more(self):
        found = ask(("begin", 2), ("without", 1), ("past", 1), ("tell", 0, 1), ("orders",))
        self.assertEqual(found, [[0], [1], [-2], [-2], [1]])

    def test_no_such_event(self):
        for size in range(1, 7):
            for wrong in (size, size + 1, GREATEST):
                self.refused(telling(size, []), ("without", wrong), -2)

    def test_only_one(self):
        self.refused(telling(1, []), ("without", 0), -6)
        self.refused(telling(2, [(0, 1)]) + [("without", 1)], ("without", 0), -6)

    def test_no_such_event_comes_ahead_of_only_one(self):
        self.refused(telling(1, []), ("without", 1), -2)
