import unittest

from ordersalone.events import answers
from tests.helper import GREATEST, THREE_HEAR_OF_TWO, ask, first_difference, telling, written

ALL_WRITTEN = [
    5, 0, 6, 1, 0, 1, 1, 1, 2, 2, 0, 1, 3, 4, 0, 5, 6, 0, 1, 7, 8, 0, 9, 10, 11, 0, 12, 5, 4, 3, 2, 1, 0, 13, 14, 0, 1,
    15, 0, 16, 17, 18, 19, 20, 22, 21, 22, 1, 0, 0, 1, GREATEST, 0, 0, 7, 11, GREATEST, 12, 0, 12, 1, 65535, 14, 1, 1,
    15, GREATEST, 21, 21, 21, 21, 21,
]
# A call of each kind with arguments as they may be, how many numbers each answers behind a begin of six events.
EACH_KIND = [
    (("begin", 6), 1), (("tell", 0, 1), 1), (("untell", 0, 1), 1), (("turn",), 1), (("without", 0), 1),
    (("told",), 1), (("heard", 0, 1), 1), (("pairs",), 1), (("past", 0), 1), (("links",), 1), (("orders",), 1),
    (("order", 0), 6), (("fits", [4, 3, 2, 1, 0]), 1), (("first",), 6), (("sooner", 0, 1), 2), (("place", 0), 6),
    (("line",), 11), (("events",), 11), (("fewest",), 1), (("row",), 2), (("apart",), 6), (("back",), 1),
    (("state",), 3),
]


class HowItIsWritten(unittest.TestCase):

    def test_each_answer_behind_how_many_numbers_it_has(self):
        calls = [0, 3, 1, 0, 1, 1, 1, 2, 5, 6, 0, 2, 7, 8, 2, 9, 10, 11, 0, 11, 1, 3, 2, 2, 1, 4, 0, 10]
        self.assertEqual(answers(calls), [
            1, 0,
            1, 1,
            1, 2,
            5, 2, 0, 1, 1, 2,
            1, 1,
            7, 3, 0, 1, 0, 2, 1, 2,
            3, 2, 0, 1,
            5, 2, 0, 1, 1, 2,
            1, 1,
            4, 3, 0, 1, 2,
            1, -2,
            1, 2,
            1, 1,
            1, 2,
            1, 2,
        ])

    def test_the_other_kinds_too(self):
        calls = [0, 3, 1, 0, 1, 1, 0, 2, 12, 3, 0, 2, 1, 13, 14, 1, 2, 15, 1, 16, 17, 18, 19, 20, 22, 21, 22]
        self.assertEqual(answers(calls), [
            1, 0,
            1, 1,
            1, 2,
            1, 1,
            2, 1, 0,
            2, 1, 2,
            4, 3, 0, 1, 1,
            7, 6, 0, 1, 2, 0, 2, 1,
            7, 3, 0, 0, 1, 2, 2, 1,
            1, 2,
            3, 2, 0, 1,
            3, 2, 1, 2,
            3, 3, 2, 2,
            1, 1,
            3, 3, 1, 1,
        ])

    def test_how_many_numbers_each_kind_answers(self):
        found = ask(*[call for call, count in EACH_KIND])
        self.assertEqual([call[0] for call, count in EACH_KIND], [
            "begin", "tell", "untell", "turn", "without", "told", "heard", "pairs", "past", "links", "orders", "order",
            "fits", "first", "sooner", "place", "line", "events", "fewest", "row", "apart", "back", "state"])
        self.assertEqual([len(answer) for answer in found], [count for call, count in EACH_KIND])
        self.assertTrue(all(number >= 0 for answer in found for number in answer))

    def test_only_a_refusal_is_below_0(self):
        at = 0
        found = answers(ALL_WRITTEN)
        while at < len(found):
            numbers = found[at + 1:at + 1 + found[at]]
            self.assertTrue(min(numbers) >= 0 or len(numbers) == 1)
            at += 1 + found[at]
        self.assertEqual(at, len(found))

    def test_nothing_but_how_many_where_there_are_none(self):
        self.assertEqual(answers([0, 2, 5, 7, 9, 8, 0]), [1, 0, 1, 0, 1, 0, 1, 0, 1, 0])

    def test_a_refusal_is_its_number_alone(self):
        self.assertEqual(answers([8, 0, 0, 1, 8, 1, 11, 1]), [1, -11, 1, 0, 1, -2, 1, -2])
        self.assertEqual(answers([0, 1, 12, 0, 12, 1, 1, 14, 0, 0, 14, 0, 1, 15, 1, 21]),
                         [1, 0, 1, -22, 1, -22, 1, -22, 1, -2, 1, -2, 1, -6])
        no_line = written(telling(6, THREE_HEAR_OF_TWO))
        self.assertEqual(answers(no_line + [16, 17, 18])[14:], [1, -33, 1, -33, 1, 3])

    def test_numbers_of_calls_not_begun(self):
        calls = [1, 0, 1, 2, 0, 1, 3, 4, 0, 5, 6, 0, 1, 7, 8, 0, 9, 10, 11, 0, 12, 2, 0, 1, 13, 14, 0, 1, 15, 0, 16, 17,
                 18, 19, 20, 21, 22]
        self.assertEqual(answers(calls), [1, -11] * 22)

    def test_arguments_like_numbers_of_calls(self):
        self.assertEqual(answers([12, 3, 0, 1, 0, 0, 6, 1, 5, 3, 8, 3]), [1, -11, 1, 0, 1, 1, 2, 1, 5])
        self.assertEqual(answers([0, 6, 12, 4, 0, 1, 12, 2, 12, 1, 12, 12, 6, 5, 4, 3, 2, 1, 0, 22]),
                         [1, 0, 1, -22, 1, -22, 1, 1, 3, 6, 0, 0])

    def test_greatest_arguments(self):
        for call in (("tell", GREATEST, GREATEST), ("untell", GREATEST, 0), ("without", GREATEST),
                     ("heard", 0, GREATEST), ("past", GREATEST), ("order", GREATEST), ("sooner", GREATEST, 0),
                     ("sooner", 0, GREATEST), ("sooner", GREATEST, GREATEST), ("place", GREATEST)):
            self.assertEqual(ask(("begin", 6), call), [[0], [-2]])
        self.assertEqual(ask(("begin", GREATEST)), [[-22]])

    def test_whole_numbers_never_true_or_false(self):
        found = answers(ALL_WRITTEN)
        self.assertIs(type(found), list)
        self.assertEqual({type(number) for number in found}, {int})

    def test_256_calls(self):
        counts = answers([0, 6] + [10] * 255)
        self.assertIsNone(first_difference(counts, [1, 0] + [1, 720] * 255))
        rows = answers([0, 6] + [11, 719] * 255)
        self.assertIsNone(first_difference(rows, [1, 0] + [7, 6, 5, 4, 3, 2, 1, 0] * 255))

    def test_256_calls_of_each_kind_that_looks(self):
        for pairs in ([], [(4, 2)], THREE_HEAR_OF_TWO):
            calls = telling(6, pairs)
            for look, count in EACH_KIND[5:21] + EACH_KIND[22:]:
                found = ask(*calls, *[look] * (256 - len(calls)))[len(calls):]
                self.assertEqual(len(found), 256 - len(calls))
                self.assertTrue(all(answer == found[0] for answer in found))

    def test_256_calls_of_all_kinds(self):
        calls = [call for call, count in EACH_KIND] * 11
        self.assertEqual(len(calls), 253)
        once = answers(written(calls[:23]))
        self.assertIsNone(first_difference(answers(written(calls + calls[:3])), once * 11 + [1, 0, 1, 1, 1, 0]))

    def test_longest_list_begun(self):
        calls = [0, 6] + ([12, 16] + [65535] * 16) * 254 + [22]
        self.assertIsNone(first_difference(answers(calls), [1, 0] + [1, -22] * 254 + [3, 6, 0, 0]))

    def test_longest_list(self):
        calls = ([12, 16] + [65535] * 16) * 255 + [0, 1]
        self.assertIsNone(first_difference(answers(calls), [1, -11] * 255 + [1, 0]))


class Unseen(list):
    """A list that tells when it is changed."""

    def changed(self, *given):
        raise AssertionError("the list was changed")

    append = extend = insert = pop = remove = reverse = sort = clear = changed
    __setitem__ = __delitem__ = __iadd__ = __imul__ = changed


class WhatIsHandedIn(unittest.TestCase):

    def test_the_list_is_as_it_was(self):
        calls = list(ALL_WRITTEN)
        answers(calls)
        self.assertEqual(calls, ALL_WRITTEN)

    def test_not_changed_for_a_while_either(self):
        self.assertEqual(answers(Unseen(ALL_WRITTEN)), answers(ALL_WRITTEN))

    def test_what_is_answered_is_a_list_of_its_own(self):
        first = answers(ALL_WRITTEN)
        kept = list(first)
        first.clear()
        self.assertEqual(answers(ALL_WRITTEN), kept)

    def test_a_second_time_the_same(self):
        first = answers(ALL_WRITTEN)
        self.assertEqual(answers(ALL_WRITTEN), first)
        answers([0, 2, 1, 1, 0])
        self.assertEqual(answers(ALL_WRITTEN), first)

    def test_each_list_has_an_object_of_its_own(self):
        self.assertEqual(answers([0, 2, 1, 0, 1]), [1, 0, 1, 1])
        self.assertEqual(answers([5]), [1, -11])
        self.assertEqual(answers([0, 2, 5]), [1, 0, 1, 0])
