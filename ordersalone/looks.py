"""The calls that only look. Each answers a list of numbers."""

from ordersalone.hearing import heard_pairs
from ordersalone.hearing import link_pairs
from ordersalone.hearing import past_events
from ordersalone.refusals import NO_SUCH
from ordersalone.sequences import all_orders


def counted(events):
    return [len(events)] + events


def counted_pairs(pairs_found):
    numbers = [len(pairs_found)]
    for i, j in pairs_found:
        numbers.append(i)
        numbers.append(j)
    return numbers


def told(record):
    return counted_pairs(record.told_pairs)


def heard(record, i, j):
    if not record.has_event(i) or not record.has_event(j):
        return [NO_SUCH]
    return [1 if i == j or record.table()[i][j] else 0]


def pairs(record):
    return counted_pairs(heard_pairs(record.table()))


def past(record, i):
    if not record.has_event(i):
        return [NO_SUCH]
    return counted(past_events(record.table(), i))


def links(record):
    return counted_pairs(link_pairs(record.table()))


def orders(record):
    return [len(all_orders(record.table()))]


def order(record, k):
    found = all_orders(record.table())
    if k >= len(found):
        return [NO_SUCH]
    return counted(found[k])
