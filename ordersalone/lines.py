"""Whether the events can have happened on a line, and by how few orders it's told."""

from ordersalone.hearing import one_heard_of_the_other
from ordersalone.sequences import all_orders


def comes_ahead(table, row, i, j):
    """Whether i is to come ahead of j in the order that goes with this one."""
    if one_heard_of_the_other(table, i, j):
        return table[i][j]
    return row.index(i) > row.index(j)


def how_many_ahead(table, row, event):
    return len([other for other in row if other != event and comes_ahead(table, row, other, event)])


def other_order(table, row):
    """The other order that goes with this one, or None if there is none."""
    ahead = [how_many_ahead(table, row, event) for event in range(len(row))]
    # Which of two comes ahead is settled for any two; this makes an order just if no two have as many ahead.
    if sorted(ahead) != list(range(len(row))):
        return None
    return [ahead.index(place) for place in range(len(row))]


def two_orders(table):
    """The two orders by which a line is told, or None if they can't have happened on one."""
    for row in all_orders(table):
        other = other_order(table, row)
        if other is not None:
            return (row, other)
    return None


def fewest_orders(table):
    if len(all_orders(table)) == 1:
        return 1
    if two_orders(table) is not None:
        return 2
    # Of up to six events all can be told by three orders.
    return 3
