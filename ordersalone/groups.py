"""Sets of events of which any two are in a row, or any two are apart."""

from ordersalone.hearing import one_heard_of_the_other


def one_more(table, groups, in_row):
    """Each of the groups with each event behind its last one that goes with all that are in it."""
    greater = []
    for group in groups:
        for event in range(group[-1] + 1 if group else 0, len(table)):
            if all([one_heard_of_the_other(table, event, other) == in_row for other in group]):
                greater.append(group + [event])
    return greater


def most_together(table, in_row):
    """The most events that are in a row, or else apart, rising."""
    # The groups of each size come in order, so the first of the greatest has the least number that not both have.
    groups = [[]]
    found = []
    while groups:
        found = groups[0]
        groups = one_more(table, groups, in_row)
    return found
