"""Weights over rules: a list that has, for each rule, the set of rules that it outweighs, as a number."""

from judgebench.bits import has


def outweighed_by_any(rows, chosen):
    """The set of all that some rule of the chosen set outweighs."""
    found = 0
    for i, row in enumerate(rows):
        if has(chosen, i):
            found |= row
    return found


def going_on(rows):
    """The same weights, and what follows from them by going on."""
    closed = list(rows)
    size = len(rows)
    # Once rule k is done, every way that goes on through rules 0 to k alone is told.
    for k in range(size):
        for i in range(size):
            if has(closed[i], k):
                closed[i] |= closed[k]
    return closed


def some_outweighs_itself(rows):
    return any([has(row, i) for i, row in enumerate(rows)])


def in_common(weighings):
    """The weights that all of these have; there is one at least."""
    rows = list(weighings[0])
    for other in weighings[1:]:
        rows = [row & more for row, more in zip(rows, other)]
    return rows
