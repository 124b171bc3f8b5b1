"""Changes taken back, and the state."""

import unittest

from tests.helper import ALL_SEEN, GREATEST, LOOKS, Unchanged, ask, last, telling


class Back(Unchanged):

    def taken_back(self, calls, change):
        """Behind the change and a back all is as it was ahead of both; the change is the last of those kept."""
        calls = list(calls)
        found = ask(*calls, *LOOKS, ("state",), change, ("back",), *ALL_SEEN)[len(calls):]
        before, answer, left, after = found[:12], found[12], found[13], found[14:]
        self.assertGreaterEqual(answer[0], 0)
        self.assertEqual(left, [before[-1][2]])
        self.assertEqual(after[:12], before)
        self.assertEqual(after, ask(*calls, *ALL_SEEN)[len(calls):])

    def test_nothing_to_take_back(self):
        for size in range(1, 7):
            self.refused(telling(size, []), ("back",), -6)
            self.assertEqual(ask(("begin", size), ("back",), ("back",), ("state",))[1:], [[-6], [-6], [size, 0, 0]])

    def test_how_many_can_still_be(self):
        found = ask(*telling(4, [(0, 1), (1, 2), (2, 3)]), *[("back",), ("state",)] * 4)
        self.assertEqual(found[4:], [[2], [4, 2, 2], [1], [4, 1, 1], [0], [4, 0, 0], [-6], [4, 0, 0]])

    def test_tell(self):
        self.taken_back(telling(2, []), ("tell", 1, 0))
        self.taken_back(telling(4, [(3, 1), (0, 2)]), ("tell", 1, 0))
        self.taken_back(telling(3, [(0, 1), (1, 2)]), ("tell", 0, 2))

    def test_untell(self):
        for pair in ((2, 3), (0, 1), (1, 2), (0, 2)):
            self.taken_back(telling(4, [(2, 3), (0, 1), (1, 2), (0, 2)]), ("untell",) + pair)

    def test_untold_and_taken_back_it_stands_where_it_stood(self):
        found = ask(*telling(3, [(0, 1), (1, 2)]), ("untell", 0, 1), ("told",), ("back",), ("told",))
        self.assertEqual(found[3:], [[1], [1, 1, 2], [2], [2, 0, 1, 1, 2]])

    def test_turn(self):
        self.taken_back(telling(4, [(2, 3), (0, 1), (1, 2)]), ("turn",))
        self.taken_back(telling(6, []), ("turn",))

    def test_a_turn_with_nothing_told_is_a_change(self):
        self.assertEqual(ask(("begin", 1), ("turn",), ("state",), ("back",), ("back",)),
                         [[0], [0], [1, 0, 1], [0], [-6]])

    def test_without(self):
        for event in range(5):
            self.taken_back(telling(5, [(2, 3), (0, 1), (1, 2), (0, 2)]), ("without", event))
        self.taken_back(telling(2, [(1, 0)]), ("without", 0))

    def test_those_gone_are_there_again_as_they_were_called(self):
        calls = telling(4, [(3, 1), (1, 0)])
        found = ask(*calls, ("without", 1), ("told",), ("without", 0), ("told",), ("without", 1), ("state",), ("back",),
                    ("told",), ("back",), ("told",), ("back",), ("told",), ("state",))
        self.assertEqual(found[3:], [
            [3], [1, 2, 0], [2], [0], [1], [1, 0, 5], [4], [0], [3], [1, 2, 0], [2], [2, 3, 1, 1, 0], [4, 2, 2],
        ])

    def test_each_kind_behind_another(self):
        changes = [("tell", 0, 1), ("tell", 1, 2), ("turn",), ("untell", 1, 0), ("without", 0), ("turn",)]
        seen = []
        for count in range(len(changes) + 1):
            seen.append(ask(("begin", 3), *changes[:count], *LOOKS)[count + 1:])
        for count in range(len(changes) + 1):
            found = ask(("begin", 3), *changes, *[("back",)] * count, *LOOKS)
            self.assertEqual(found[-len(LOOKS):], seen[len(changes) - count])

    def test_a_back_is_no_change(self):
        found = ask(("begin", 3), ("tell", 0, 1), ("tell", 1, 2), ("back",), ("back",), ("back",), ("told",))
        self.assertEqual(found[3:], [[1], [0], [-6], [0]])

    def test_a_change_behind_a_back(self):
        found = ask(("begin", 3), ("tell", 0, 1), ("back",), ("tell", 1, 0), ("told",), ("state",), ("back",),
                    ("back",), ("told",))
        self.assertEqual(found[2:], [[0], [1], [1, 1, 0], [3, 1, 1], [0], [-6], [0]])


class TheLastTen(Unchanged):

    def test_ten(self):
        found = ask(("begin", 6), *[("tell", 0, 1), ("untell", 0, 1)] * 5, ("state",), *[("back",)] * 11)
        self.assertEqual(found[11:], [[6, 0, 10]] + [[left] for left in range(9, -1, -1)] + [[-6]])

    def test_more_than_ten(self):
        pairs = [(i, j) for i in range(6) for j in range(i + 1, 6)]
        for count in range(11, 16):
            calls = telling(6, pairs[:count])
            found = ask(*calls, ("state",), *[("back",)] * 11, ("told",), ("state",))[count + 1:]
            kept = [event for pair in pairs[:count - 10] for event in pair]
            self.assertEqual(found[0], [6, count, 10])
            self.assertEqual(found[1:12], [[left] for left in range(9, -1, -1)] + [[-6]])
            self.assertEqual(found[12:], [[count - 10] + kept, [6, count - 10, 0]])
            self.refused(calls + [("back",)] * 10, ("back",), -6)

    def test_what_is_taken_back_makes_room_only_for_new_ones(self):
        calls = [("begin", 4), ("tell", 0, 1)] + [("turn",)] * 14
        found = ask(*calls, *[("back",)] * 3, ("state",), ("turn",), ("state",), *[("turn",)] * 4, ("state",))
        self.assertEqual(found[16:], [[9], [8], [7], [4, 1, 7], [1], [4, 1, 8], [1], [1], [1], [1], [4, 1, 10]])

    def test_in_a_list_of_256_calls(self):
        found = ask(("begin", 2), ("tell", 0, 1), *[("turn",)] * 242, *[("back",)] * 11, ("state",))
        self.assertEqual(found[244:], [[left] for left in range(9, -1, -1)] + [[-6], [2, 1, 0]])


class SinceBegin(Unchanged):

    def test_none_across_a_begin(self):
        found = ask(*telling(3, [(0, 1), (1, 2)]), ("begin", 3), ("state",), ("back",), ("told",), ("orders",))
        self.assertEqual(found[3:], [[0], [3, 0, 0], [-6], [0], [6]])

    def test_only_those_behind_it(self):
        found = ask(*telling(6, [(0, 1), (1, 2)]), ("begin", 2), ("tell", 1, 0), ("state",), ("back",), ("back",),
                    ("state",))
        self.assertEqual(found[3:], [[0], [1], [2, 1, 1], [0], [-6], [2, 0, 0]])

    def test_a_begin_is_no_change(self):
        self.assertEqual(ask(("begin", 3), ("begin", 4), ("back",), ("state",)), [[0], [0], [-6], [4, 0, 0]])

    def test_a_begin_that_is_refused_takes_none_away(self):
        for n in (0, 7, GREATEST):
            found = ask(*telling(3, [(0, 1), (1, 2)]), ("begin", n), ("state",), ("back",), ("told",))
            self.assertEqual(found[3:], [[-22], [3, 2, 2], [1], [1, 0, 1]])


class RefusedIsNoChange(Unchanged):

    def test_each_refusal(self):
        calls = telling(3, [(2, 1), (1, 0)])
        for call, number in (
                (("begin", 0), -22), (("tell", 3, 0), -2), (("tell", 0, GREATEST), -2), (("tell", 1, 1), -35),
                (("tell", 0, 2), -35), (("tell", 2, 1), -17), (("untell", 3, 3), -2), (("untell", 2, 0), -33),
                (("without", 3), -2), (("heard", 0, 3), -2), (("past", 3), -2), (("order", 1), -2),
                (("fits", [2, 1]), -22), (("sooner", 3, 0), -2), (("sooner", 0, 0), -22), (("place", 3), -2)):
            self.refused(calls, call, number)
            found = ask(*calls, call, ("state",), ("back",), ("told",))[3:]
            self.assertEqual(found, [[number], [3, 2, 2], [1], [1, 2, 1]])

    def test_only_one_event(self):
        found = ask(("begin", 2), ("without", 0), ("without", 0), ("state",), ("back",), ("back",), ("state",))
        self.assertEqual(found, [[0], [1], [-6], [1, 0, 1], [0], [-6], [2, 0, 0]])

    def test_refused_ones_push_none_out(self):
        found = ask(("begin", 3), ("tell", 0, 1), *[("tell", 0, 1), ("tell", 1, 0)] * 10, ("state",), ("back",))
        self.assertEqual(found[-2:], [[3, 1, 1], [0]])

    def test_a_refused_back_is_none(self):
        found = ask(("begin", 3), *[("back",)] * 20, ("tell", 0, 1), ("state",), ("back",), ("back",), ("turn",),
                    ("state",))
        self.assertEqual(found[21:], [[1], [3, 1, 1], [0], [-6], [0], [3, 0, 1]])


class State(unittest.TestCase):

    def test_events_pairs_told_and_changes(self):
        found = ask(("begin", 5), ("state",), ("tell", 0, 1), ("state",), ("tell", 1, 2), ("state",), ("tell", 0, 2),
                    ("state",), ("turn",), ("state",), ("untell", 1, 0), ("state",), ("without", 4), ("state",),
                    ("back",), ("state",))
        self.assertEqual(found[1::2], [
            [5, 0, 0], [5, 1, 1], [5, 2, 2], [5, 3, 3], [5, 3, 4], [5, 2, 5], [4, 2, 6], [5, 2, 5],
        ])

    def test_told_are_counted_and_not_what_follows(self):
        self.assertEqual(last(*telling(4, [(0, 1), (1, 2), (2, 3)]), ("state",)), [4, 3, 3])
        self.assertEqual(last(*telling(4, [(0, 1), (1, 2), (2, 3)]), ("without", 3), ("state",)), [3, 3, 4])

    def test_looking_twice(self):
        self.assertEqual(ask(("begin", 6), ("state",), ("state",)), [[0], [6, 0, 0], [6, 0, 0]])
