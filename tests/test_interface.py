import unittest

from ordersalone.events import answers
from tests.helper import GREATEST, ask, first_difference

ALL_WRITTEN = [
    5, 0, 6, 1, 0, 1, 1, 1, 2, 2, 0, 1, 3, 4, 0, 5, 6, 0, 1, 7, 8, 0, 9, 10, 11, 0,
    1, 0, 0, 1, GREATEST, 0, 0, 7, 11, GREATEST,
]


class HowItIsWritten(unittest.TestCase):

    def test_each_answer_behind_how_many_numbers_it_has(self):
        calls = [0, 3, 1, 0, 1, 1, 1, 2, 5, 6, 0, 2, 7, 8, 2, 9, 10, 11, 0, 11, 1, 3, 2, 2, 1, 4, 0, 10]
        self.assertEqual(answers(calls), [
            1, 0,
            1, 1,
            1, 2,
            5, 2, 0, 1, 1, 2,
            1, 1,
            7, 3, 0, 1, 0, 2, 1, 2,
            3, 2, 0, 1,
            5, 2, 0, 1, 1, 2,
            1, 1,
            4, 3, 0, 1, 2,
            1, -2,
            1, 2,
            1, 1,
            1, 2,
            1, 2,
        ])

    def test_nothing_but_how_many_where_there_are_none(self):
        self.assertEqual(answers([0, 2, 5, 7, 9, 8, 0]), [1, 0, 1, 0, 1, 0, 1, 0, 1, 0])

    def test_a_refusal_is_its_number_alone(self):
        self.assertEqual(answers([8, 0, 0, 1, 8, 1, 11, 1]), [1, -11, 1, 0, 1, -2, 1, -2])

    def test_numbers_of_calls_not_begun(self):
        calls = [1, 0, 1, 2, 0, 1, 3, 4, 0, 5, 6, 0, 1, 7, 8, 0, 9, 10, 11, 0, 12, 2, 0, 1, 13, 14, 0, 1, 15, 0, 16, 17,
                 18, 19, 20, 21, 22]
        self.assertEqual(answers(calls), [1, -11] * 22)

    def test_arguments_like_numbers_of_calls(self):
        self.assertEqual(answers([12, 3, 0, 1, 0, 0, 6, 1, 5, 3, 8, 3]), [1, -11, 1, 0, 1, 1, 2, 1, 5])

    def test_greatest_arguments(self):
        for call in (("tell", GREATEST, GREATEST), ("untell", GREATEST, 0), ("without", GREATEST),
                     ("heard", 0, GREATEST), ("past", GREATEST), ("order", GREATEST)):
            self.assertEqual(ask(("begin", 6), call), [[0], [-2]])
        self.assertEqual(ask(("begin", GREATEST)), [[-22]])

    def test_whole_numbers_never_true_or_false(self):
        found = answers(ALL_WRITTEN)
        self.assertIs(type(found), list)
        self.assertEqual({type(number) for number in found}, {int})

    def test_256_calls(self):
        counts = answers([0, 6] + [10] * 255)
        self.assertIsNone(first_difference(counts, [1, 0] + [1, 720] * 255))
        rows = answers([0, 6] + [11, 719] * 255)
        self.assertIsNone(first_difference(rows, [1, 0] + [7, 6, 5, 4, 3, 2, 1, 0] * 255))

    def test_longest_list(self):
        calls = ([12, 16] + [65535] * 16) * 255 + [0, 1]
        self.assertIsNone(first_difference(answers(calls), [1, -11] * 255 + [1, 0]))


class Unseen(list):
    """A list that tells when it is changed."""

    def changed(self, *given):
        raise AssertionError("the list was changed")

    append = extend = insert = pop = remove = reverse = sort = clear = changed
    __setitem__ = __delitem__ = __iadd__ = __imul__ = changed


class WhatIsHandedIn(unittest.TestCase):

    def test_the_list_is_as_it_was(self):
        calls = list(ALL_WRITTEN)
        answers(calls)
        self.assertEqual(calls, ALL_WRITTEN)

    def test_not_changed_for_a_while_either(self):
        self.assertEqual(answers(Unseen(ALL_WRITTEN)), answers(ALL_WRITTEN))

    def test_what_is_answered_is_a_list_of_its_own(self):
        first = answers(ALL_WRITTEN)
        kept = list(first)
        first.clear()
        self.assertEqual(answers(ALL_WRITTEN), kept)

    def test_a_second_time_the_same(self):
        first = answers(ALL_WRITTEN)
        self.assertEqual(answers(ALL_WRITTEN), first)
        answers([0, 2, 1, 1, 0])
        self.assertEqual(answers(ALL_WRITTEN), first)

    def test_each_list_has_an_object_of_its_own(self):
        self.assertEqual(answers([0, 2, 1, 0, 1]), [1, 0, 1, 1])
        self.assertEqual(answers([5]), [1, -11])
        self.assertEqual(answers([0, 2, 5]), [1, 0, 1, 0])
