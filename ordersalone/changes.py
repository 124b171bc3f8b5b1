"""The calls that begin, that change what is told, and that take a change back. Each answers a list of numbers."""

from ordersalone.hearing import heard_pairs
from ordersalone.refusals import NONE_THERE
from ordersalone.refusals import NOT_AS_TOLD
from ordersalone.refusals import NO_CHANGE
from ordersalone.refusals import NO_SUCH
from ordersalone.refusals import ONLY_ONE
from ordersalone.refusals import RING
from ordersalone.refusals import TOLD_ALREADY

MOST_EVENTS = 6


def begin(record, n):
    if n < 1 or n > MOST_EVENTS:
        return [NOT_AS_TOLD]
    record.start(n)
    return [0]


def tell(record, i, j):
    if not record.has_event(i) or not record.has_event(j):
        return [NO_SUCH]
    if i == j or record.table()[j][i]:
        return [RING]
    if (i, j) in record.told_pairs:
        return [TOLD_ALREADY]
    record.change(record.size, record.told_pairs + [(i, j)])
    return [len(record.told_pairs)]


def untell(record, i, j):
    if not record.has_event(i) or not record.has_event(j):
        return [NO_SUCH]
    if (i, j) not in record.told_pairs:
        return [NONE_THERE]
    record.change(record.size, [pair for pair in record.told_pairs if pair != (i, j)])
    return [len(record.told_pairs)]


def turn(record):
    record.change(record.size, [(j, i) for i, j in record.told_pairs])
    return [len(record.told_pairs)]


def number_without(event, gone):
    return event - 1 if event > gone else event


def without(record, i):
    if not record.has_event(i):
        return [NO_SUCH]
    if record.size == 1:
        return [ONLY_ONE]
    # What was heard through the one that goes would be lost if only the pairs told were kept.
    left = [pair for pair in heard_pairs(record.table()) if i not in pair]
    record.change(record.size - 1, [(number_without(a, i), number_without(b, i)) for a, b in left])
    return [record.size]


def back(record):
    if not record.earlier:
        return [NO_CHANGE]
    record.take_back()
    return [len(record.earlier)]
