import unittest

from tests.helper import GREATEST, Unchanged, ask, last, telling

BRANCHES = [(4, 2), (2, 0), (4, 0), (2, 3), (1, 3)]


class Told(unittest.TestCase):

    def test_as_they_were_told(self):
        self.assertEqual(last(*telling(5, BRANCHES), ("told",)), [5, 4, 2, 2, 0, 4, 0, 2, 3, 1, 3])

    def test_nothing_told(self):
        for size in range(1, 7):
            self.assertEqual(last(("begin", size), ("told",)), [0])

    def test_what_follows_is_not_told(self):
        self.assertEqual(last(*telling(3, [(0, 1), (1, 2)]), ("told",)), [2, 0, 1, 1, 2])


class Heard(unittest.TestCase):

    def test_told(self):
        self.assertEqual(last(*telling(2, [(1, 0)]), ("heard", 1, 0)), [1])

    def test_the_other_way_about_it_is_not(self):
        self.assertEqual(last(*telling(2, [(1, 0)]), ("heard", 0, 1)), [0])

    def test_what_follows(self):
        self.assertEqual(last(*telling(5, BRANCHES), ("heard", 4, 3)), [1])
        row = [(4, 5), (3, 4), (2, 3), (1, 2), (0, 1)]
        for i in range(6):
            for j in range(6):
                self.assertEqual(last(*telling(6, row), ("heard", i, j)), [int(i <= j)])

    def test_of_two_apart(self):
        calls = telling(5, BRANCHES)
        self.assertEqual(ask(*calls, ("heard", 0, 3), ("heard", 3, 0), ("heard", 1, 0))[6:], [[0], [0], [0]])

    def test_the_same(self):
        for size in range(1, 7):
            for event in range(size):
                self.assertEqual(last(("begin", size), ("heard", event, event)), [1])

    def test_no_such_event(self):
        for size in range(1, 7):
            for wrong in (size, size + 1, GREATEST):
                for i, j in ((0, wrong), (wrong, 0), (wrong, wrong)):
                    self.assertEqual(last(("begin", size), ("heard", i, j)), [-2])


class Pairs(unittest.TestCase):

    def test_by_the_first_then_by_the_second(self):
        found = last(*telling(5, BRANCHES), ("pairs",))
        self.assertEqual(found, [6, 1, 3, 2, 0, 2, 3, 4, 0, 4, 2, 4, 3])

    def test_nothing_told(self):
        for size in range(1, 7):
            self.assertEqual(last(("begin", size), ("pairs",)), [0])

    def test_all_in_one_row(self):
        found = last(*telling(6, [(5, 4), (4, 3), (3, 2), (2, 1), (1, 0)]), ("pairs",))
        self.assertEqual(found, [15] + [event for i in range(6) for j in range(i) for event in (i, j)])


class Links(unittest.TestCase):

    def test_a_pair_told_that_follows_is_none(self):
        self.assertEqual(last(*telling(5, BRANCHES), ("links",)), [4, 1, 3, 2, 0, 2, 3, 4, 2])

    def test_in_order_whatever_was_told_first(self):
        self.assertEqual(last(*telling(4, [(3, 1), (0, 2), (3, 0)]), ("links",)), [3, 0, 2, 3, 0, 3, 1])

    def test_all_in_one_row(self):
        pairs = [(i, j) for i in range(6) for j in range(i + 1, 6)]
        self.assertEqual(last(*telling(6, pairs), ("links",)), [5, 0, 1, 1, 2, 2, 3, 3, 4, 4, 5])

    def test_what_lies_between_may_lie_far(self):
        calls = telling(4, [(0, 3), (0, 1), (1, 2), (2, 3)])
        self.assertEqual(last(*calls, ("links",)), [3, 0, 1, 1, 2, 2, 3])
        self.assertEqual(last(*calls, ("untell", 1, 2), ("links",)), [3, 0, 1, 0, 3, 2, 3])

    def test_nothing_told(self):
        for size in range(1, 7):
            self.assertEqual(last(("begin", size), ("links",)), [0])


class Past(unittest.TestCase):

    def test_rising_and_without_itself(self):
        found = ask(*telling(5, BRANCHES), *[("past", event) for event in range(5)])
        self.assertEqual(found[6:], [[2, 2, 4], [0], [1, 4], [3, 1, 2, 4], [0]])

    def test_all_in_one_row(self):
        calls = telling(6, [(5, 4), (4, 3), (3, 2), (2, 1), (1, 0)])
        self.assertEqual(last(*calls, ("past", 0)), [5, 1, 2, 3, 4, 5])
        self.assertEqual(last(*calls, ("past", 5)), [0])

    def test_one_event(self):
        self.assertEqual(ask(("begin", 1), ("past", 0)), [[0], [0]])

    def test_no_such_event(self):
        for size in range(1, 7):
            for wrong in (size, size + 1, GREATEST):
                self.assertEqual(last(("begin", size), ("past", wrong)), [-2])


class First(unittest.TestCase):

    def test_rising(self):
        self.assertEqual(last(*telling(5, BRANCHES), ("first",)), [2, 1, 4])

    def test_nothing_told_all_are(self):
        for size in range(1, 7):
            self.assertEqual(last(("begin", size), ("first",)), [size] + list(range(size)))

    def test_all_in_one_row(self):
        self.assertEqual(last(*telling(6, [(5, 4), (4, 3), (3, 2), (2, 1), (1, 0)]), ("first",)), [1, 5])

    def test_as_it_is_told_untold_and_turned(self):
        found = ask(("begin", 3), ("tell", 2, 0), ("first",), ("tell", 2, 1), ("first",), ("turn",), ("first",),
                    ("untell", 0, 2), ("first",), ("without", 1), ("first",))
        self.assertEqual(found[2::2], [[2, 1, 2], [1, 2], [2, 0, 1], [2, 0, 1], [2, 0, 1]])


class LookingChangesNothing(Unchanged):

    def test_each_look(self):
        looks = {
            ("told",): [5, 4, 2, 2, 0, 4, 0, 2, 3, 1, 3], ("heard", 4, 3): [1], ("heard", 0, 5): [-2],
            ("heard", 1, 1): [1], ("pairs",): [6, 1, 3, 2, 0, 2, 3, 4, 0, 4, 2, 4, 3], ("past", 3): [3, 1, 2, 4],
            ("past", GREATEST): [-2], ("links",): [4, 1, 3, 2, 0, 2, 3, 4, 2], ("orders",): [7],
            ("order", 2): [5, 4, 1, 2, 0, 3], ("order", GREATEST): [-2], ("first",): [2, 1, 4],
            ("sooner", 0, 3): [4, 7], ("sooner", 0, 5): [-2], ("sooner", 1, 1): [-22],
            ("place", 1): [5, 2, 2, 2, 1, 0], ("place", 5): [-2],
            ("line",): [10, 1, 4, 2, 3, 0, 4, 2, 0, 1, 3], ("events",): [5, 4, 2, 0, 3, 2, 1, 3, 4, 1, 0],
            ("fewest",): [2], ("row",): [3, 0, 2, 4], ("apart",): [2, 0, 1], ("state",): [5, 5, 5],
        }
        for look, wanted in looks.items():
            self.assertEqual(self.changes_nothing(telling(5, BRANCHES), look), wanted, look)
        for row, wanted in (([4, 2, 1, 3, 0], 1), ([0, 1, 2, 3, 4], 0), ([], -22), ([4, 2, 1, 3, 65535], -22)):
            self.assertEqual(self.changes_nothing(telling(5, BRANCHES), ("fits", row)), [wanted])
