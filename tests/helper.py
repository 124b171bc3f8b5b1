"""What the tests share: calls by their names, and a second way to find out the answers."""

import functools
import itertools
import unittest

from ordersalone.events import answers

NAMES = (
    "begin", "tell", "untell", "turn", "without", "told", "heard", "pairs", "past", "links", "orders", "order",
    "fits", "first", "sooner", "place", "line", "events", "fewest", "row", "apart", "back", "state",
)
GREATEST = 4294967295
LOOKS = (
    ("told",), ("pairs",), ("links",), ("orders",), ("order", 0), ("first",), ("line",), ("events",), ("fewest",),
    ("row",), ("apart",),
)
# All that can be seen of an object: how it is now, and how it is each time that one more change is taken back.
ALL_SEEN = LOOKS + (("state",),) + (("back",), ("told",), ("state",)) * 11

# Six events of which each of three hears of two others, and the two other shapes of six that are on no line.
THREE_HEAR_OF_TWO = [(0, 3), (1, 3), (1, 4), (2, 4), (2, 5), (0, 5)]
NO_LINES = (
    THREE_HEAR_OF_TWO,
    [(0, 1), (1, 2), (0, 3), (3, 4), (5, 2), (5, 4)],
    [(0, 1), (1, 2), (0, 3), (4, 3), (4, 5), (5, 2)],
)


def written(calls):
    """The one list of numbers for calls like ("tell", 0, 1); a row is given as a list."""
    numbers = []
    for call in calls:
        numbers.append(NAMES.index(call[0]))
        for argument in call[1:]:
            if isinstance(argument, list):
                numbers.append(len(argument))
                numbers.extend(argument)
            else:
                numbers.append(argument)
    return numbers


def apart_again(answered):
    """The answers, a list for each call."""
    found = []
    at = 0
    while at < len(answered):
        end = at + 1 + answered[at]
        found.append(answered[at + 1:end])
        at = end
    return found


def ask(*calls):
    found = apart_again(answers(written(calls)))
    if len(found) != len(calls):
        raise AssertionError(f"{len(calls)} calls, {len(found)} answers")
    return found


def last(*calls):
    return ask(*calls)[-1]


def telling(size, pairs):
    """The calls that begin with so many events and tell these pairs."""
    return [("begin", size)] + [("tell", i, j) for i, j in pairs]


def flat(pairs):
    return [len(pairs)] + [event for pair in pairs for event in pair]


def reached(size, pairs):
    """Whom one can have heard of, by walking from each event along the pairs."""
    found = set()
    for start in range(size):
        waiting = [start]
        while waiting:
            here = waiting.pop()
            for i, j in pairs:
                if i == here and (start, j) not in found:
                    found.add((start, j))
                    waiting.append(j)
    return found


@functools.lru_cache(maxsize=None)
def sifted(size, pairs):
    return tuple(
        row for row in itertools.permutations(range(size))
        if all(row.index(i) < row.index(j) for i, j in pairs)
    )


def orders_of(size, pairs):
    """All orders that fit, sifted from all that there are."""
    return [list(row) for row in sifted(size, frozenset(pairs))]


def sooner_in(row):
    """All pairs of which the first stands ahead of the second in this row."""
    return frozenset(itertools.combinations(row, 2))


def told_by(rows):
    """What these orders tell: the pairs that stand so in all of them."""
    return frozenset.intersection(*[sooner_in(row) for row in rows])


def first_two_that_tell(size, pairs):
    """The first order with which another one tells just these pairs and what follows, and that other; or None."""
    known = reached(size, pairs)
    rows = [(row, sooner_in(row)) for row in orders_of(size, pairs)]
    for row, ahead in rows:
        for other, other_ahead in rows:
            if ahead & other_ahead == known:
                return row, other
    return None


def most_of(size, pairs, in_row):
    """The first of the greatest sets of which any two are in a row, or none."""
    known = reached(size, pairs)
    for count in range(size, 0, -1):
        for events in itertools.combinations(range(size), count):
            if all(((i, j) in known or (j, i) in known) == in_row for i, j in itertools.combinations(events, 2)):
                return list(events)


def renamed(pairs, names):
    return [(names[i], names[j]) for i, j in pairs]


@functools.lru_cache(maxsize=None)
def shapes(size):
    """All that so many events can have heard of one another, once but for the events' names."""
    if size == 1:
        return ((),)
    found = set()
    last_one = size - 1
    for known in shapes(size - 1):
        for count in range(size):
            for past in itertools.combinations(range(last_one), count):
                if all(i in past for i, j in known if j in past):
                    more = known + tuple((i, last_one) for i in past)
                    found.add(min(
                        tuple(sorted(renamed(more, names))) for names in itertools.permutations(range(size))))
    return tuple(sorted(found))


def without_rings(size):
    """Every way to tell pairs of so many events such that there is no ring."""
    couples = list(itertools.combinations(range(size), 2))
    for ways in itertools.product((0, 1, 2), repeat=len(couples)):
        pairs = [(i, j) if way == 1 else (j, i) for (i, j), way in zip(couples, ways) if way]
        if all(i != j for i, j in reached(size, pairs)):
            yield pairs


def first_difference(found, wanted):
    """Where two long lists first differ, or None: unittest takes minutes to lay such lists side by side."""
    if found == wanted:
        return None
    for place, (one, other) in enumerate(zip(found, wanted)):
        if one != other:
            return (place, one, other)
    return (len(found), len(wanted))


class Unchanged(unittest.TestCase):
    """For tests that a call changes nothing."""

    def changes_nothing(self, calls, call):
        """What the call answers; a second time it answers the same, and all else is as if it weren't there."""
        calls = list(calls)
        found = ask(*calls, call, call, *ALL_SEEN)[len(calls):]
        self.assertEqual(found[0], found[1])
        self.assertIsNone(first_difference(found[2:], ask(*calls, *ALL_SEEN)[len(calls):]), (calls, call))
        return found[0]

    def refused(self, calls, call, number):
        self.assertEqual(self.changes_nothing(calls, call), [number])


class Model:
    """The calls once more, written another way than in the program."""

    def __init__(self):
        self.size = None
        self.kept = []
        self.history = []
        self.left = 0

    def answer(self, name, *given):
        if name == "begin":
            return self.begin(*given)
        if self.size is None:
            return [-11]
        if name not in ("order", "fits") and any(event >= self.size for event in given):
            return [-2]
        before = (self.size, list(self.kept))
        found = getattr(self, name)(*given)
        if name in ("tell", "untell", "turn", "without") and found[0] >= 0:
            self.history.append(before)
            self.left = min(self.left + 1, 10)
        return found

    def reached(self):
        return reached(self.size, self.kept)

    def begin(self, n):
        if n not in range(1, 7):
            return [-22]
        self.size = n
        self.kept = []
        self.left = 0
        return [0]

    def tell(self, i, j):
        if i == j or (j, i) in self.reached():
            return [-35]
        if (i, j) in self.kept:
            return [-17]
        self.kept.append((i, j))
        return [len(self.kept)]

    def untell(self, i, j):
        if (i, j) not in self.kept:
            return [-33]
        self.kept.remove((i, j))
        return [len(self.kept)]

    def turn(self):
        self.kept = [pair[::-1] for pair in self.kept]
        return [len(self.kept)]

    def without(self, i):
        if self.size == 1:
            return [-6]
        names = [event for event in range(self.size) if event != i]
        self.kept = sorted((names.index(a), names.index(b)) for a, b in self.reached() if i not in (a, b))
        self.size -= 1
        return [self.size]

    def told(self):
        return flat(self.kept)

    def heard(self, i, j):
        return [int(i == j or (i, j) in self.reached())]

    def pairs(self):
        return flat(sorted(self.reached()))

    def links(self):
        known = self.reached()
        return flat([
            (i, j) for i, j in sorted(known)
            if not any((i, k) in known and (k, j) in known for k in range(self.size))
        ])

    def past(self, i):
        events = sorted(a for a, b in self.reached() if b == i)
        return [len(events)] + events

    def orders(self):
        return [len(orders_of(self.size, self.kept))]

    def order(self, k):
        found = orders_of(self.size, self.kept)
        return [-2] if k >= len(found) else [self.size] + found[k]

    def fits(self, row):
        if len(row) != self.size or set(row) != set(range(self.size)):
            return [-22]
        return [int(row in orders_of(self.size, self.kept))]

    def first(self):
        events = sorted(set(range(self.size)) - {j for i, j in self.kept})
        return [len(events)] + events

    def sooner(self, i, j):
        if i == j:
            return [-22]
        rows = orders_of(self.size, self.kept)
        return [len(orders_of(self.size, self.kept + [(i, j)])), len(rows)]

    def place(self, i):
        columns = zip(*orders_of(self.size, self.kept))
        return [self.size] + [column.count(i) for column in columns]

    def line(self):
        found = first_two_that_tell(self.size, self.kept)
        return [-33] if found is None else [2 * self.size] + found[0] + found[1]

    def events(self):
        found = first_two_that_tell(self.size, self.kept)
        if found is None:
            return [-33]
        return [self.size] + [row.index(event) for event in range(self.size) for row in found]

    def fewest(self):
        if len(orders_of(self.size, self.kept)) == 1:
            return [1]
        return [2 if first_two_that_tell(self.size, self.kept) else 3]

    def row(self):
        events = most_of(self.size, self.kept, True)
        return [len(events)] + events

    def apart(self):
        events = most_of(self.size, self.kept, False)
        return [len(events)] + events

    def back(self):
        if not self.left:
            return [-6]
        self.left -= 1
        self.size, self.kept = self.history.pop()
        return [self.left]

    def state(self):
        return [self.size, len(self.kept), self.left]
