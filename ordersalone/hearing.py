"""Who can have heard of whom, by the pairs that are told."""


def heard_table(size, told_pairs):
    """At [i][j] stands whether at j one can have heard of i."""
    table = [[False] * size for event in range(size)]
    for i, j in told_pairs:
        table[i][j] = True
    # The middle one is the outermost loop, so that one round is enough for chains of any length.
    for middle in range(size):
        for i in range(size):
            for j in range(size):
                if table[i][middle] and table[middle][j]:
                    table[i][j] = True
    return table


def heard_pairs(table):
    """All pairs of which at the second one can have heard of the first, by the first, then by the second."""
    found = []
    for i in range(len(table)):
        for j in range(len(table)):
            if table[i][j]:
                found.append((i, j))
    return found


def one_lies_between(table, i, j):
    return any([table[i][k] and table[k][j] for k in range(len(table))])


def link_pairs(table):
    return [pair for pair in heard_pairs(table) if not one_lies_between(table, pair[0], pair[1])]


def past_events(table, i):
    """The events of which one can have heard at i, rising; i itself is not among them."""
    return [j for j in range(len(table)) if table[j][i]]


def first_events(table):
    """The events at which one can have heard of none, rising."""
    return [event for event in range(len(table)) if not past_events(table, event)]


def one_heard_of_the_other(table, i, j):
    return table[i][j] or table[j][i]
