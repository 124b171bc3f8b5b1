"""What the tests share: calls by their names, and a second way to find out the answers."""

import itertools

from ordersalone.events import answers

NAMES = (
    "begin", "tell", "untell", "turn", "without", "told", "heard", "pairs", "past", "links", "orders", "order",
    "fits", "first", "sooner", "place", "line", "events", "fewest", "row", "apart", "back", "state",
)
GREATEST = 4294967295
LOOKS = (("told",), ("pairs",), ("links",), ("orders",), ("order", 0))


def written(calls):
    """The one list of numbers for calls like ("tell", 0, 1); a row is given as a list."""
    numbers = []
    for call in calls:
        numbers.append(NAMES.index(call[0]))
        for argument in call[1:]:
            if isinstance(argument, list):
                numbers.append(len(argument))
                numbers.extend(argument)
            else:
                numbers.append(argument)
    return numbers


def apart_again(answered):
    """The answers, a list for each call."""
    found = []
    at = 0
    while at < len(answered):
        end = at + 1 + answered[at]
        found.append(answered[at + 1:end])
        at = end
    return found


def ask(*calls):
    found = apart_again(answers(written(calls)))
    if len(found) != len(calls):
        raise AssertionError(f"{len(calls)} calls, {len(found)} answers")
    return found


def last(*calls):
    return ask(*calls)[-1]


def telling(size, pairs):
    """The calls that begin with so many events and tell these pairs."""
    return [("begin", size)] + [("tell", i, j) for i, j in pairs]


def flat(pairs):
    return [len(pairs)] + [event for pair in pairs for event in pair]


def reached(size, pairs):
    """Whom one can have heard of, by walking from each event along the pairs."""
    found = set()
    for start in range(size):
        waiting = [start]
        while waiting:
            here = waiting.pop()
            for i, j in pairs:
                if i == here and (start, j) not in found:
                    found.add((start, j))
                    waiting.append(j)
    return found


def orders_of(size, pairs):
    """All orders that fit, sifted from all that there are."""
    return [
        list(row) for row in itertools.permutations(range(size))
        if all(row.index(i) < row.index(j) for i, j in pairs)
    ]


def without_rings(size):
    """Every way to tell pairs of so many events such that there is no ring."""
    couples = list(itertools.combinations(range(size), 2))
    for ways in itertools.product((0, 1, 2), repeat=len(couples)):
        pairs = [(i, j) if way == 1 else (j, i) for (i, j), way in zip(couples, ways) if way]
        if all(i != j for i, j in reached(size, pairs)):
            yield pairs


def first_difference(found, wanted):
    """Where two long lists first differ, or None: unittest takes minutes to lay such lists side by side."""
    if found == wanted:
        return None
    for place, (one, other) in enumerate(zip(found, wanted)):
        if one != other:
            return (place, one, other)
    return (len(found), len(wanted))


class Model:
    """The calls once more, written another way than in the program."""

    def __init__(self):
        self.size = None
        self.kept = []

    def answer(self, name, *given):
        if name == "begin":
            return self.begin(*given)
        if self.size is None:
            return [-11]
        if name != "order" and any(event >= self.size for event in given):
            return [-2]
        return getattr(self, name)(*given)

    def reached(self):
        return reached(self.size, self.kept)

    def begin(self, n):
        if n not in range(1, 7):
            return [-22]
        self.size = n
        self.kept = []
        return [0]

    def tell(self, i, j):
        if i == j or (j, i) in self.reached():
            return [-35]
        if (i, j) in self.kept:
            return [-17]
        self.kept.append((i, j))
        return [len(self.kept)]

    def untell(self, i, j):
        if (i, j) not in self.kept:
            return [-33]
        self.kept.remove((i, j))
        return [len(self.kept)]

    def turn(self):
        self.kept = [pair[::-1] for pair in self.kept]
        return [len(self.kept)]

    def without(self, i):
        if self.size == 1:
            return [-6]
        names = [event for event in range(self.size) if event != i]
        self.kept = sorted((names.index(a), names.index(b)) for a, b in self.reached() if i not in (a, b))
        self.size -= 1
        return [self.size]

    def told(self):
        return flat(self.kept)

    def heard(self, i, j):
        return [int(i == j or (i, j) in self.reached())]

    def pairs(self):
        return flat(sorted(self.reached()))

    def links(self):
        known = self.reached()
        return flat([
            (i, j) for i, j in sorted(known)
            if not any((i, k) in known and (k, j) in known for k in range(self.size))
        ])

    def past(self, i):
        events = sorted(a for a, b in self.reached() if b == i)
        return [len(events)] + events

    def orders(self):
        return [len(orders_of(self.size, self.kept))]

    def order(self, k):
        found = orders_of(self.size, self.kept)
        return [-2] if k >= len(found) else [self.size] + found[k]
