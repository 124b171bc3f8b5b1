"""What holds of all that can be told, and the same calls answered in a second way."""

import random
import unittest

from tests.helper import LOOKS, Model, ask, first_difference, flat, last, orders_of, reached, telling, without_rings

ONE_ARGUMENT = ("without", "past")
TWO_ARGUMENTS = ("tell", "tell", "tell", "tell", "untell", "heard")
NO_ARGUMENT = ("turn", "told", "pairs", "links", "orders")


def couples(answer):
    return list(zip(answer[1::2], answer[2::2]))


def grown(size, chance, often):
    """Pairs told of so many events, none of which makes a ring."""
    told = []
    for turn in range(often):
        i = chance.randrange(size)
        j = chance.randrange(size)
        if i != j and (i, j) not in told and (j, i) not in reached(size, told):
            told.append((i, j))
    return told


def some_tellings():
    """All that can be told of up to four events, and some of what can be told of five and six."""
    for size in range(1, 5):
        for told in without_rings(size):
            yield size, told
    chance = random.Random(11)
    for size in (5, 6):
        for often in range(40):
            yield size, grown(size, chance, often)


def chance_call(chance):
    """A call as it comes, seldom with an event that is not there."""
    name = chance.choice(ONE_ARGUMENT + TWO_ARGUMENTS * 2 + NO_ARGUMENT + ("order", "begin"))
    greatest = chance.choice((0, 2, 5, 5, 6))
    if name == "begin":
        return (name, chance.choice((0, 1, 2, 5, 6, 7)))
    if name == "order":
        return (name, chance.choice((0, 1, 5, 40, 719, 720)))
    if name in NO_ARGUMENT:
        return (name,)
    if name in ONE_ARGUMENT:
        return (name, chance.randrange(greatest + 1))
    return (name, chance.randrange(greatest + 1), chance.randrange(greatest + 1))


class WhatHolds(unittest.TestCase):

    def test_a_who_can_have_heard_is_the_least_order_with_all_told(self):
        for size, told in some_tellings():
            every = [(i, j) for i in range(size) for j in range(size)]
            calls = telling(size, told)
            found = ask(*calls, ("pairs",), *[("heard", i, j) for i, j in every])[len(calls):]
            heard = {pair for pair, answer in zip(every, found[1:]) if answer == [1]}
            self.assertEqual(found[0], flat(sorted(pair for pair in heard if pair[0] != pair[1])))
            for i, j in every:
                self.assertTrue((i, i) in heard)
                self.assertFalse(i != j and (i, j) in heard and (j, i) in heard)
                for k in range(size):
                    self.assertTrue((i, k) in heard or (i, j) not in heard or (j, k) not in heard)
            self.assertEqual({pair for pair in heard if pair[0] != pair[1]}, reached(size, told))

    def test_b_heard_is_sooner_in_all_orders_of_which_there_is_one(self):
        for size, told in some_tellings():
            calls = telling(size, told)
            answered = ask(*calls, ("pairs",), ("orders",))[len(calls):]
            count = answered[1][0]
            self.assertGreaterEqual(count, 1)
            rows = []
            for begin in range(0, count, 200):
                numbers = range(begin, min(begin + 200, count))
                rows.extend(row[1:] for row in ask(*calls, *[("order", k) for k in numbers])[len(calls):])
            self.assertEqual(last(*calls, ("order", count)), [-2])
            self.assertIsNone(first_difference(rows, orders_of(size, told)))
            always = [
                (i, j) for i in range(size) for j in range(size)
                if i != j and all(row.index(i) < row.index(j) for row in rows)
            ]
            self.assertEqual(couples(answered[0]), always)

    def test_e_pairs_between_which_nobody_lies_tell_all(self):
        for size, told in some_tellings():
            calls = telling(size, told)
            found = ask(*calls, ("pairs",), ("links",), ("orders",))[len(calls):]
            links = couples(found[1])
            again = telling(size, links)
            self.assertEqual(ask(*again, ("pairs",), ("links",), ("orders",))[len(again):], found)
            for pair in links:
                fewer = telling(size, [other for other in links if other != pair])
                self.assertEqual(last(*fewer, ("heard", pair[0], pair[1])), [0])

    def test_e_sooner_and_later_are_all_orders(self):
        for size, told in some_tellings():
            for i, j in [(0, size - 1), (1, 0)][:size // 2]:
                if (i, j) in reached(size, told) or (j, i) in reached(size, told):
                    continue
                found = last(*telling(size, told), ("orders",))[0]
                ahead = last(*telling(size, told), ("tell", i, j), ("orders",))[0]
                behind = last(*telling(size, told), ("tell", j, i), ("orders",))[0]
                self.assertEqual(ahead + behind, found)

    def test_f_refused_and_looking_change_nothing(self):
        for size, told in some_tellings():
            calls = telling(size, told)
            refused = [("begin", 0), ("tell", 0, 0), ("tell", size, 0), ("untell", 0, 0), ("untell", 0, size),
                       ("without", size), ("heard", 0, size), ("past", size), ("order", 720)]
            refused.extend(("tell", j, i) for i, j in reached(size, told))
            refused.extend(("tell", i, j) for i, j in told)
            found = ask(*calls, *LOOKS, *refused, *LOOKS)[len(calls):]
            self.assertTrue(all(len(answer) == 1 and answer[0] < 0 for answer in found[5:-5]))
            self.assertEqual(found[:5], found[-5:])


class ASecondWay(unittest.TestCase):

    def test_lists_of_calls_as_they_come(self):
        chance = random.Random(94)
        seen = set()
        for round_number in range(300):
            calls = [chance_call(chance) for place in range(chance.randrange(1, 60))]
            if round_number % 5:
                calls.insert(0, ("begin", chance.choice((4, 5, 6))))
            model = Model()
            wanted = [model.answer(*call) for call in calls]
            self.assertIsNone(first_difference(ask(*calls), wanted), calls)
            seen.update((call[0], answer[0]) for call, answer in zip(calls, wanted) if answer[0] < 0)
        # Only if all refusals came up do these lists show anything of them.
        for name, number in (("begin", -22), ("tell", -2), ("tell", -35), ("tell", -17), ("untell", -2),
                             ("untell", -33), ("without", -2), ("without", -6), ("heard", -2), ("past", -2),
                             ("order", -2), ("turn", -11)):
            self.assertIn((name, number), seen)
