import unittest

from tests.helper import GREATEST, NAMES, Unchanged, ask, last, telling

EVERY_OTHER = [
    ("tell", 0, 1), ("untell", 0, 1), ("turn",), ("without", 0), ("told",), ("heard", 0, 1), ("pairs",), ("past", 0),
    ("links",), ("orders",), ("order", 0), ("fits", [0, 1]), ("first",), ("sooner", 0, 1), ("place", 0), ("line",),
    ("events",), ("fewest",), ("row",), ("apart",), ("back",), ("state",),
]


class Begin(Unchanged):

    def test_one_to_six_events(self):
        for n in range(1, 7):
            self.assertEqual(ask(("begin", n), ("past", n - 1), ("past", n)), [[0], [0], [-2]])
            self.assertEqual(ask(("begin", n), ("state",)), [[0], [n, 0, 0]])

    def test_nothing_is_told(self):
        self.assertEqual(
            ask(("begin", 4), ("told",), ("pairs",), ("links",), ("orders",)), [[0], [0], [0], [0], [24]])

    def test_any_other_number_is_refused(self):
        for n in (0, 7, 8, 65536, GREATEST):
            self.assertEqual(ask(("begin", n)), [[-22]])

    def test_it_may_come_again(self):
        found = ask(("begin", 3), ("tell", 0, 1), ("begin", 2), ("told",), ("tell", 0, 2), ("tell", 0, 1))
        self.assertEqual(found, [[0], [1], [0], [0], [-2], [1]])

    def test_again_with_more_events(self):
        found = ask(("begin", 1), ("begin", 6), ("tell", 5, 0), ("pairs",), ("begin", 6), ("pairs",))
        self.assertEqual(found, [[0], [0], [1], [1, 5, 0], [0], [0]])

    def test_refused_again_all_is_as_it_was(self):
        for n in (0, 7, GREATEST):
            self.refused(telling(3, [(2, 0)]), ("begin", n), -22)
            self.assertEqual(ask(*telling(3, [(2, 0)]), ("begin", n), ("told",))[2:], [[-22], [1, 2, 0]])


class NotBegun(unittest.TestCase):

    def test_every_other_call_is_named(self):
        self.assertEqual(["begin"] + [call[0] for call in EVERY_OTHER], list(NAMES))

    def test_every_other_call(self):
        for call in EVERY_OTHER:
            self.assertEqual(ask(call), [[-11]])
        self.assertEqual(ask(*EVERY_OTHER), [[-11]] * 22)

    def test_behind_a_begin_that_is_refused(self):
        for call in EVERY_OTHER:
            self.assertEqual(ask(("begin", 0), call, ("begin", 7), call), [[-22], [-11], [-22], [-11]])

    def test_a_begin_behind_it_is_a_new_one(self):
        found = ask(*EVERY_OTHER, ("begin", 7), *EVERY_OTHER, ("begin", 2), ("told",), ("orders",))
        self.assertEqual(found, [[-11]] * 22 + [[-22]] + [[-11]] * 22 + [[0], [0], [2]])

    def test_ahead_of_all_other_refusals(self):
        for name in ("tell", "untell", "heard", "sooner"):
            self.assertEqual(last((name, GREATEST, GREATEST)), [-11])
        for name in ("without", "past", "order", "place"):
            self.assertEqual(last((name, GREATEST)), [-11])
        self.assertEqual(last(("fits", [])), [-11])
        self.assertEqual(last(("fits", [65535] * 16)), [-11])

    def test_a_row_ahead_of_begin_is_passed_over_whole(self):
        for row in ([], [0], [0, 5], [0] * 16):
            self.assertEqual(ask(("fits", row), ("begin", 1), ("told",)), [[-11], [0], [0]])
