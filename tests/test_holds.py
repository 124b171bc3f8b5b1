"""What holds of all that can be told, and the same calls answered in a second way."""

import itertools
import random
import unittest

from tests.helper import (
    ALL_SEEN, GREATEST, LOOKS, NAMES, NO_LINES, Model, Unchanged, ask, first_difference, flat, last, most_of,
    orders_of, reached, renamed, shapes, sooner_in, telling, told_by, without_rings,
)

ONE_ARGUMENT = ("without", "past", "place")
TWO_ARGUMENTS = ("tell", "untell", "heard", "sooner")
# Most calls tell: else there would seldom be much to look at.
OFTEN = NAMES + ("tell",) * 12 + ("untell", "turn", "back")
REFUSALS = (
    ("begin", -22), ("tell", -2), ("tell", -35), ("tell", -17), ("untell", -2), ("untell", -33), ("without", -2),
    ("without", -6), ("heard", -2), ("past", -2), ("order", -2), ("fits", -22), ("sooner", -2), ("sooner", -22),
    ("place", -2), ("back", -6),
)


def couples(answer):
    return list(zip(answer[1::2], answer[2::2]))


def grown(size, chance, often):
    """Pairs told of so many events, none of which makes a ring."""
    told = []
    for turn in range(often):
        i = chance.randrange(size)
        j = chance.randrange(size)
        if i != j and (i, j) not in told and (j, i) not in reached(size, told):
            told.append((i, j))
    return told


def mixed(size, pairs, chance):
    """The same pairs with other names, told in another order."""
    names = list(range(size))
    chance.shuffle(names)
    told = renamed(pairs, names)
    chance.shuffle(told)
    return told


def some_tellings():
    """All that can be told of up to four events, and of five and six every shape there is and some more."""
    for size in range(1, 5):
        for told in without_rings(size):
            yield size, told
    chance = random.Random(11)
    for size in (5, 6):
        for often in range(40):
            yield size, grown(size, chance, often)
        for pairs in shapes(size):
            yield size, mixed(size, pairs, chance)
    for pairs in NO_LINES * 5:
        yield 6, mixed(6, pairs, chance)


def chance_event(chance):
    return chance.choice((0, 1, 2, 3, 4, 5) * 6 + (6, 7, 65536, GREATEST))


def chance_row(chance):
    """Most often all of four, five or six events, each once."""
    row = list(range(chance.choice((2, 4, 5, 6, 6, 6))))
    chance.shuffle(row)
    if chance.randrange(4) == 0:
        row[0] = chance.choice((0, 5, 6, 65535))
    if chance.randrange(4) == 0:
        row = (row * 8)[:chance.randrange(17)]
    return row


def chance_call(chance, name):
    """A call of this name, seldom with an event that is not there."""
    if name == "begin":
        return (name, chance.choice((0, 1, 2, 5, 6, 6, 6, 7, GREATEST)))
    if name == "order":
        return (name, chance.choice((0, 1, 5, 40, 719, 720, GREATEST)))
    if name == "fits":
        return (name, chance_row(chance))
    if name in ONE_ARGUMENT:
        return (name, chance_event(chance))
    if name in TWO_ARGUMENTS:
        return (name, chance_event(chance), chance_event(chance))
    return (name,)


def chance_change(chance, size):
    """A change as it comes, which may be refused."""
    name = chance.choice(("tell", "tell", "tell", "tell", "untell", "untell", "turn", "without"))
    if name == "turn":
        return (name,)
    if name == "without":
        return (name, chance.randrange(size))
    return (name, chance.randrange(size), chance.randrange(size))


class WhatHolds(Unchanged):

    def test_they_are_many_of_each_size(self):
        sizes = [size for size, told in some_tellings()]
        self.assertEqual([sizes.count(size) for size in range(1, 7)], [1, 3, 25, 543, 103, 373])

    def test_a_who_can_have_heard_is_the_least_order_with_all_told(self):
        for size, told in some_tellings():
            every = [(i, j) for i in range(size) for j in range(size)]
            calls = telling(size, told)
            found = ask(*calls, ("pairs",), *[("heard", i, j) for i, j in every])[len(calls):]
            heard = {pair for pair, answer in zip(every, found[1:]) if answer == [1]}
            self.assertEqual(found[0], flat(sorted(pair for pair in heard if pair[0] != pair[1])))
            for i, j in every:
                self.assertTrue((i, i) in heard)
                self.assertFalse(i != j and (i, j) in heard and (j, i) in heard)
                for k in range(size):
                    self.assertTrue((i, k) in heard or (i, j) not in heard or (j, k) not in heard)
            self.assertEqual({pair for pair in heard if pair[0] != pair[1]}, reached(size, told))

    def test_b_heard_is_sooner_in_all_orders_of_which_there_is_one(self):
        for size, told in some_tellings():
            calls = telling(size, told)
            answered = ask(*calls, ("pairs",), ("orders",))[len(calls):]
            count = answered[1][0]
            self.assertGreaterEqual(count, 1)
            rows = []
            for begin in range(0, count, 200):
                numbers = range(begin, min(begin + 200, count))
                rows.extend(row[1:] for row in ask(*calls, *[("order", k) for k in numbers])[len(calls):])
            self.assertEqual(last(*calls, ("order", count)), [-2])
            self.assertIsNone(first_difference(rows, orders_of(size, told)))
            always = [
                (i, j) for i in range(size) for j in range(size)
                if i != j and all(row.index(i) < row.index(j) for row in rows)
            ]
            self.assertEqual(couples(answered[0]), always)

    def test_b_fits_just_these_orders(self):
        for size, told in some_tellings():
            calls = telling(size, told)
            fitting = orders_of(size, told)
            rows = [list(row) for row in itertools.permutations(range(size))]
            for begin in range(0, len(rows), 240):
                some = rows[begin:begin + 240]
                found = ask(*calls, *[("fits", row) for row in some])[len(calls):]
                self.assertEqual(found, [[int(row in fitting)] for row in some])
            self.assertEqual(sum(row in fitting for row in rows), last(*calls, ("orders",))[0])

    def test_b_first_are_those_that_are_first_in_some_order(self):
        for size, told in some_tellings():
            events = sorted({row[0] for row in orders_of(size, told)})
            self.assertEqual(last(*telling(size, told), ("first",)), [len(events)] + events)

    def test_c_both_orders_of_a_line_tell_just_who_can_have_heard(self):
        lines = 0
        for size, told in some_tellings():
            line, events = ask(*telling(size, told), ("line",), ("events",))[-2:]
            if line == [-33]:
                continue
            lines += 1
            self.assertEqual((line[0], len(line), events[0], len(events)), (2 * size, 2 * size + 1, size, 2 * size + 1))
            row, other = line[1:size + 1], line[size + 1:]
            self.assertIn(row, orders_of(size, told))
            self.assertEqual(told_by([row, other]), reached(size, told))
            places = couples(events)
            for event in range(size):
                self.assertEqual(places[event], (row.index(event), other.index(event)))
            heard = {
                (i, j) for i in range(size) for j in range(size)
                if places[i][0] < places[j][0] and places[i][1] < places[j][1]
            }
            self.assertEqual(heard, reached(size, told))
        self.assertGreater(lines, 900)

    def test_c_it_is_told_by_the_first_that_has_another(self):
        for size, told in some_tellings():
            line = last(*telling(size, told), ("line",))
            rows = orders_of(size, told)
            known = reached(size, told)
            earlier = rows[:rows.index(line[1:size + 1])] if line != [-33] else rows
            for row in earlier:
                turned = {(j, i) for i, j in sooner_in(row) if (i, j) not in known} | known
                # A row in which any two stand as told here would have each event at a place of its own.
                counts = sorted(sum(j == event for i, j in turned) for event in range(size))
                self.assertNotEqual(counts, list(range(size)))

    def test_c_where_no_line_is_told_no_two_orders_tell_it(self):
        none_told = 0
        for size, told in some_tellings():
            if last(*telling(size, told), ("line",)) == [-33]:
                none_told += 1
                self.assertEqual(last(*telling(size, told), ("events",)), [-33])
                for rows in itertools.product(orders_of(size, told), repeat=2):
                    self.assertNotEqual(told_by(rows), reached(size, told))
        self.assertGreaterEqual(none_told, 18)

    def test_d_as_many_orders_as_told_tell_it_and_no_fewer(self):
        seen = []
        for size, told in some_tellings():
            count = last(*telling(size, told), ("fewest",))
            known = reached(size, told)
            ahead = [sooner_in(row) for row in orders_of(size, told)]
            seen.extend(count)
            self.assertEqual(count == [1], known in ahead)
            self.assertEqual(count == [1], len(ahead) == 1)
            two = any(one & other == known for one, other in itertools.combinations(ahead, 2))
            self.assertEqual(count == [2], two)
            if count == [3]:
                self.assertTrue(any(
                    one & other & third == known for one, other, third in itertools.combinations(ahead, 3)))
        self.assertEqual(sorted(set(seen)), [1, 2, 3])

    def test_e_pairs_between_which_nobody_lies_tell_all(self):
        for size, told in some_tellings():
            calls = telling(size, told)
            looks = LOOKS[1:]
            found = ask(*calls, *looks)[len(calls):]
            links = couples(found[1])
            again = telling(size, links)
            self.assertEqual(ask(*again, *looks)[len(again):], found)
            for pair in links:
                fewer = telling(size, [other for other in links if other != pair])
                self.assertEqual(last(*fewer, ("heard", pair[0], pair[1])), [0])

    def test_e_sooner_and_later_are_all_orders(self):
        for size, told in some_tellings():
            calls = telling(size, told)
            rows = orders_of(size, told)
            known = reached(size, told)
            every = list(itertools.permutations(range(size), 2))
            found = dict(zip(every, ask(*calls, *[("sooner", i, j) for i, j in every])[len(calls):]))
            for i, j in every:
                self.assertEqual(found[i, j], [sum(row.index(i) < row.index(j) for row in rows), len(rows)])
                self.assertEqual(found[i, j][0] + found[j, i][0], len(rows))
                self.assertEqual(found[i, j][0] == len(rows), (i, j) in known)

    def test_each_stands_somewhere_in_all_orders(self):
        for size, told in some_tellings():
            calls = telling(size, told)
            rows = orders_of(size, told)
            found = ask(*calls, *[("place", event) for event in range(size)])[len(calls):]
            for event, places in enumerate(found):
                self.assertEqual(places, [size] + [sum(row[at] == event for row in rows) for at in range(size)])
                self.assertEqual(sum(places[1:]), len(rows))

    def test_the_most_in_a_row_and_apart(self):
        for size, told in some_tellings():
            found = ask(*telling(size, told), ("row",), ("apart",))[-2:]
            for answer, in_row in zip(found, (True, False)):
                self.assertEqual(answer[1:], most_of(size, told, in_row))
                self.assertEqual(answer[0], len(answer) - 1)

    def test_f_taken_back_all_is_as_it_was(self):
        chance = random.Random(21)
        for size, told in some_tellings():
            calls = telling(size, told)[:16]
            before = ask(*calls, *LOOKS, ("state",))[len(calls):]
            size_now = before[-1][0]
            changes = []
            while len(changes) < 10 and chance.randrange(8):
                change = chance_change(chance, size_now)
                if last(*calls, *changes, change)[0] >= 0:
                    changes.append(change)
                    size_now = last(*calls, *changes, ("state",))[0]
            after = ask(*calls, *changes, *[("back",)] * len(changes), *LOOKS, ("state",))[-len(before):]
            self.assertEqual(after[:-1], before[:-1], (calls, changes))
            # With ten new ones some of the earlier changes may have been pushed out.
            left = min(before[-1][2], 10 - len(changes))
            self.assertEqual(after[-1], before[-1][:2] + [left])

    def test_f_refused_and_looking_change_nothing(self):
        for size, told in some_tellings():
            calls = telling(size, told)
            refused = [("begin", 0), ("tell", 0, 0), ("tell", size, 0), ("untell", 0, 0), ("untell", 0, size),
                       ("without", size), ("heard", 0, size), ("past", size), ("order", 720), ("fits", [0] * 7),
                       ("sooner", size, size), ("sooner", 0, 0), ("place", size)]
            refused.extend(("tell", j, i) for i, j in reached(size, told))
            refused.extend(("tell", i, j) for i, j in told)
            looking = [("heard", 0, size - 1), ("past", 0), ("place", 0), ("fits", list(range(size)))]
            found = ask(*calls, *refused, *looking, *LOOKS, *ALL_SEEN)[len(calls):]
            self.assertTrue(all(len(answer) == 1 and answer[0] < 0 for answer in found[:len(refused)]))
            self.assertTrue(all(answer[0] >= 0 for answer in found[len(refused):len(refused) + len(looking)]))
            wanted = ask(*calls, *ALL_SEEN)[len(calls):]
            self.assertIsNone(first_difference(found[-len(wanted):], wanted), calls)


class ASecondWay(unittest.TestCase):

    def same(self, calls):
        model = Model()
        wanted = [model.answer(*call) for call in calls]
        self.assertIsNone(first_difference(ask(*calls), wanted), calls)
        return [(call[0], answer[0]) for call, answer in zip(calls, wanted)]

    def test_lists_of_calls_as_they_come(self):
        chance = random.Random(94)
        seen = set()
        for round_number in range(400):
            calls = [chance_call(chance, chance.choice(OFTEN)) for place in range(chance.randrange(1, 60))]
            if round_number % 5:
                calls.insert(0, ("begin", chance.choice((4, 5, 6))))
            seen.update(self.same(calls))
        # Only if all refusals came up do these lists show anything of them.
        for refusal in REFUSALS + tuple((name, -11) for name in NAMES[1:]):
            self.assertIn(refusal, seen)

    def test_calls_of_all_kinds_one_behind_another(self):
        chance = random.Random(23)
        for round_number in range(60):
            names = list(NAMES[1:])
            chance.shuffle(names)
            calls = [("begin", 6)] + [("tell", chance.randrange(6), chance.randrange(6)) for often in range(20)]
            self.same(calls + [chance_call(chance, name) for name in names] + [("begin", 3)])

    def test_each_kind_right_behind_each_other(self):
        chance = random.Random(46)
        for name in NAMES:
            calls = telling(6, mixed(6, NO_LINES[0], chance))
            for other in NAMES:
                calls.extend([chance_call(chance, name), chance_call(chance, other)])
            self.same(calls)

    def test_lists_of_256_calls(self):
        chance = random.Random(256)
        seen = set()
        for round_number in range(20):
            calls = [("begin", 6)]
            while len(calls) < 256:
                name = chance.choice(OFTEN)
                # A begin would leave little of what was told, were it as frequent as the others.
                if name != "begin" or chance.randrange(6) == 0:
                    calls.append(chance_call(chance, name))
            seen.update(self.same(calls))
        self.assertEqual({name for name, number in seen if number >= 0}, set(NAMES))

    def test_no_line_is_come_to_by_changes_of_all_kinds(self):
        chance = random.Random(3)
        for round_number in range(60):
            calls = telling(6, mixed(6, NO_LINES[round_number % 3], chance))
            for often in range(12):
                calls.append(chance_change(chance, 5))
                calls.extend([("line",), ("events",), ("fewest",), ("state",)])
                if chance.randrange(2):
                    calls.extend([("back",), ("line",), ("fewest",)])
            self.same(calls)
