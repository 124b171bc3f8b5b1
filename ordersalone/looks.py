"""The calls that only look. Each answers a list of numbers."""

from ordersalone.groups import most_together
from ordersalone.hearing import first_events
from ordersalone.hearing import heard_pairs
from ordersalone.hearing import link_pairs
from ordersalone.hearing import past_events
from ordersalone.lines import fewest_orders
from ordersalone.lines import two_orders
from ordersalone.refusals import NONE_THERE
from ordersalone.refusals import NOT_AS_TOLD
from ordersalone.refusals import NO_SUCH
from ordersalone.sequences import all_orders
from ordersalone.sequences import how_often_at_each_place
from ordersalone.sequences import how_often_sooner
from ordersalone.sequences import may_have_come


def counted(events):
    return [len(events)] + events


def counted_pairs(pairs_found):
    numbers = [len(pairs_found)]
    for i, j in pairs_found:
        numbers.append(i)
        numbers.append(j)
    return numbers


def told(record):
    return counted_pairs(record.told_pairs)


def heard(record, i, j):
    if not record.has_event(i) or not record.has_event(j):
        return [NO_SUCH]
    return [1 if i == j or record.table()[i][j] else 0]


def pairs(record):
    return counted_pairs(heard_pairs(record.table()))


def past(record, i):
    if not record.has_event(i):
        return [NO_SUCH]
    return counted(past_events(record.table(), i))


def links(record):
    return counted_pairs(link_pairs(record.table()))


def first(record):
    return counted(first_events(record.table()))


def orders(record):
    return [len(all_orders(record.table()))]


def order(record, k):
    found = all_orders(record.table())
    if k >= len(found):
        return [NO_SUCH]
    return counted(found[k])


def fits(record, handed_in):
    if sorted(handed_in) != list(range(record.size)):
        return [NOT_AS_TOLD]
    return [1 if may_have_come(record.table(), handed_in) else 0]


def sooner(record, i, j):
    if not record.has_event(i) or not record.has_event(j):
        return [NO_SUCH]
    if i == j:
        return [NOT_AS_TOLD]
    found = all_orders(record.table())
    return [how_often_sooner(found, i, j), len(found)]


def place(record, i):
    if not record.has_event(i):
        return [NO_SUCH]
    return counted(how_often_at_each_place(all_orders(record.table()), i))


def line(record):
    found = two_orders(record.table())
    if found is None:
        return [NONE_THERE]
    return counted(found[0] + found[1])


def places_on_line(record):
    found = two_orders(record.table())
    if found is None:
        return [NONE_THERE]
    numbers = [record.size]
    for event in range(record.size):
        numbers.append(found[0].index(event))
        numbers.append(found[1].index(event))
    return numbers


def fewest(record):
    return [fewest_orders(record.table())]


def most_in_row(record):
    return counted(most_together(record.table(), True))


def most_apart(record):
    return counted(most_together(record.table(), False))


def state(record):
    return [record.size, len(record.told_pairs), len(record.earlier)]
