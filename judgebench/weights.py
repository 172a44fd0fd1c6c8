"""Weights over rules: a list that has, for each rule, the set of rules that it outweighs, as a number."""


def outweighed_by_any(rows, chosen):
    """The set of all that some rule of the chosen set outweighs."""
    found = 0
    for i, row in enumerate(rows):
        if (chosen >> i) & 1 == 1:
            found |= row
    return found


def going_on(rows):
    """The same weights, and what follows from them by going on."""
    closed = list(rows)
    size = len(rows)
    # Once rule k is done, every way that goes on through rules 0 to k alone is told.
    for k in range(size):
        for i in range(size):
            if (closed[i] >> k) & 1 == 1:
                closed[i] |= closed[k]
    return closed


def some_outweighs_itself(rows):
    return any([(row >> i) & 1 == 1 for i, row in enumerate(rows)])
