"""The orders in which the events may have come."""

from ordersalone.hearing import past_events


def may_follow(row, event, past):
    """Whether the event can come right behind the row: its whole past stands there, and it doesn't yet."""
    return event not in row and all([earlier in row for earlier in past])


def one_longer(rows, pasts):
    longer = []
    for row in rows:
        for event, past in enumerate(pasts):
            if may_follow(row, event, past):
                longer.append(row + [event])
    return longer


def all_orders(table):
    """All orders in which they may have come, by the first event at which two differ."""
    pasts = [past_events(table, event) for event in range(len(table))]
    # Each row is followed by the lesser event first, so the rows are in order at every length.
    rows = [[]]
    for place in range(len(table)):
        rows = one_longer(rows, pasts)
    return rows


def may_have_come(table, row):
    """Whether at no event of the row one can have heard of one that stands behind it."""
    for place, event in enumerate(row):
        if any([table[later][event] for later in row[place + 1:]]):
            return False
    return True


def how_often_sooner(rows, i, j):
    """In how many of the orders i comes ahead of j."""
    return len([row for row in rows if row.index(i) < row.index(j)])


def how_often_at_each_place(rows, event):
    places = [row.index(event) for row in rows]
    return [places.count(place) for place in range(len(rows[0]))]
