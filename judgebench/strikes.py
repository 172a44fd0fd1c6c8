"""Strikes: which rules a set of rules strikes and defends by some weights, and the ground by these.

Least clashes are a list of sets of rules; weights are rows, for each rule the set that it outweighs.
"""

from judgebench.bits import has, within


def strikers(least, row, i):
    """The strikers of rule i, which outweighs the rules of row."""
    # A set that clashes just when i comes to it has all of some least clash but i, and that much doesn't clash yet.
    others = [one ^ (1 << i) for one in least if has(one, i)]
    return [one for one in others if one & row == 0]


def struck_by(against, chosen):
    """The set of rules that the chosen set strikes; against has the strikers of each rule."""
    found = 0
    for i, sets in enumerate(against):
        if any([within(one, chosen) for one in sets]):
            found |= 1 << i
    return found


def defended_by(against, chosen):
    """The set of rules that the chosen set defends; against has the strikers of each rule."""
    struck = struck_by(against, chosen)
    found = 0
    for i, sets in enumerate(against):
        # Every set that strikes i has one of its strikers within, so the strikers alone are looked at.
        if all([one & struck != 0 for one in sets]):
            found |= 1 << i
    return found


def ground_by(least, rows):
    """The ground by the weights in rows, of a case with these least clashes."""
    against = [strikers(least, row, i) for i, row in enumerate(rows)]
    found = 0
    before = -1
    # A greater set defends no less, so what is reached from the empty set is the least that has all it defends.
    while found != before:
        before = found
        found = defended_by(against, found)
    return found
