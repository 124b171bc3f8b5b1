"""Where it usually breaks: all that the document names there, with all that can be looked at."""

import itertools

from tests.helper import LOOKS, THREE_HEAR_OF_TWO, Unchanged, ask, first_difference, last, telling

NO_ARGUMENT = ("told", "pairs", "links", "orders", "first", "line", "events", "fewest", "row", "apart", "state")


def all_looks(*calls):
    """Each look without arguments, by its name."""
    return dict(zip(NO_ARGUMENT, ask(*calls, *[(name,) for name in NO_ARGUMENT])[len(calls):]))


class WhereItBreaks(Unchanged):

    def test_one_event(self):
        self.assertEqual(all_looks(("begin", 1)), {
            "told": [0], "pairs": [0], "links": [0], "orders": [1], "first": [1, 0], "line": [2, 0, 0],
            "events": [1, 0, 0], "fewest": [1], "row": [1, 0], "apart": [1, 0], "state": [1, 0, 0],
        })
        found = ask(("begin", 1), ("order", 0), ("order", 1), ("fits", [0]), ("fits", [1]), ("fits", []),
                    ("sooner", 0, 0), ("place", 0), ("heard", 0, 0), ("past", 0), ("turn",), ("without", 0),
                    ("tell", 0, 0), ("untell", 0, 0), ("back",), ("back",))
        self.assertEqual(found[1:], [
            [1, 0], [-2], [1], [-22], [-22], [-22], [1, 1], [1], [0], [0], [-6], [-35], [-33], [0], [-6],
        ])

    def test_nothing_told(self):
        self.assertEqual(all_looks(("begin", 3)), {
            "told": [0], "pairs": [0], "links": [0], "orders": [6], "first": [3, 0, 1, 2],
            "line": [6, 0, 1, 2, 2, 1, 0], "events": [3, 0, 2, 1, 1, 2, 0], "fewest": [2], "row": [1, 0],
            "apart": [3, 0, 1, 2], "state": [3, 0, 0],
        })

    def test_all_in_one_row(self):
        self.assertEqual(all_looks(*telling(4, [(0, 3), (1, 0), (3, 2)])), {
            "told": [3, 0, 3, 1, 0, 3, 2], "pairs": [6, 0, 2, 0, 3, 1, 0, 1, 2, 1, 3, 3, 2],
            "links": [3, 0, 3, 1, 0, 3, 2], "orders": [1], "first": [1, 1], "line": [8, 1, 0, 3, 2, 1, 0, 3, 2],
            "events": [4, 1, 1, 0, 0, 3, 3, 2, 2], "fewest": [1], "row": [4, 0, 1, 2, 3], "apart": [1, 0],
            "state": [4, 3, 3],
        })

    def test_a_pair_that_follows_told_as_well(self):
        calls = telling(4, [(2, 0), (0, 3)])
        found = all_looks(*calls)
        more = all_looks(*calls, ("tell", 2, 3))
        self.assertEqual(last(*calls, ("tell", 2, 3)), [3])
        self.assertEqual((more["told"], more["state"]), ([3, 2, 0, 0, 3, 2, 3], [4, 3, 3]))
        for name in NO_ARGUMENT[1:-1]:
            self.assertEqual(more[name], found[name], name)

    def test_a_pair_untold_that_follows_still(self):
        calls = telling(4, [(2, 3), (2, 0), (0, 3)])
        found = all_looks(*calls)
        fewer = all_looks(*calls, ("untell", 2, 3))
        self.assertEqual(ask(*calls, ("untell", 2, 3), ("heard", 2, 3), ("untell", 2, 3))[4:], [[2], [1], [-33]])
        self.assertEqual((fewer["told"], fewer["state"]), ([2, 2, 0, 0, 3], [4, 2, 4]))
        for name in NO_ARGUMENT[1:-1]:
            self.assertEqual(fewer[name], found[name], name)

    def test_a_ring_refused(self):
        for size in range(2, 7):
            row = [(event, event + 1) for event in range(size - 1)]
            self.refused(telling(size, row), ("tell", size - 1, 0), -35)
            self.refused(telling(size, []), ("tell", 0, 0), -35)

    def test_six_of_which_each_of_three_hears_of_two_others(self):
        self.assertEqual(all_looks(*telling(6, THREE_HEAR_OF_TWO)), {
            "told": [6, 0, 3, 1, 3, 1, 4, 2, 4, 2, 5, 0, 5], "pairs": [6, 0, 3, 0, 5, 1, 3, 1, 4, 2, 4, 2, 5],
            "links": [6, 0, 3, 0, 5, 1, 3, 1, 4, 2, 4, 2, 5], "orders": [48], "first": [3, 0, 1, 2], "line": [-33],
            "events": [-33], "fewest": [3], "row": [2, 0, 3], "apart": [3, 0, 1, 2], "state": [6, 6, 6],
        })

    def test_one_without(self):
        calls = telling(4, [(3, 1), (1, 0), (2, 1)])
        self.assertEqual(all_looks(*calls, ("without", 1)), {
            "told": [2, 1, 0, 2, 0], "pairs": [2, 1, 0, 2, 0], "links": [2, 1, 0, 2, 0], "orders": [2],
            "first": [2, 1, 2], "line": [6, 1, 2, 0, 2, 1, 0], "events": [3, 2, 2, 0, 1, 1, 0], "fewest": [2],
            "row": [2, 0, 1], "apart": [2, 1, 2], "state": [3, 2, 4],
        })

    def test_turned(self):
        self.assertEqual(all_looks(*telling(4, [(3, 1), (1, 0), (2, 1)]), ("turn",)), {
            "told": [3, 1, 3, 0, 1, 1, 2], "pairs": [5, 0, 1, 0, 2, 0, 3, 1, 2, 1, 3],
            "links": [3, 0, 1, 1, 2, 1, 3], "orders": [2], "first": [1, 0], "line": [8, 0, 1, 2, 3, 0, 1, 3, 2],
            "events": [4, 0, 0, 1, 1, 2, 3, 3, 2], "fewest": [2], "row": [3, 0, 1, 2], "apart": [2, 2, 3],
            "state": [4, 3, 4],
        })

    def test_720_orders(self):
        found = all_looks(("begin", 6))
        self.assertEqual((found["orders"], found["fewest"], found["line"]), (
            [720], [2], [12, 0, 1, 2, 3, 4, 5, 5, 4, 3, 2, 1, 0]))
        rows = [list(row) for row in itertools.permutations(range(6))]
        for begin in range(0, 720, 120):
            some = range(begin, begin + 120)
            calls = [call for k in some for call in (("order", k), ("fits", rows[k]))]
            wanted = [answer for k in some for answer in ([6] + rows[k], [1])]
            self.assertIsNone(first_difference(ask(("begin", 6), *calls)[1:], wanted))
        self.assertEqual(ask(("begin", 6), ("order", 720), ("sooner", 5, 0), ("place", 3))[1:], [
            [-2], [360, 720], [6] + [120] * 6])
        self.assertEqual(len(ask(("begin", 6), *LOOKS * 23)), 254)
