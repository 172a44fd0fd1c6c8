"""Sets of whole numbers, each kept as one number: bit k for its member k."""


def has(chosen, k):
    return (chosen >> k) & 1 == 1


def within(inner, outer):
    return inner & outer == inner


def members(chosen):
    """The set's members, rising."""
    return [k for k in range(chosen.bit_length()) if has(chosen, k)]


def in_many(sets, enough):
    """The set of all that is in at least so many of the sets."""
    found = 0
    for k in range(max([one.bit_length() for one in sets])):
        if len([one for one in sets if has(one, k)]) >= enough:
            found |= 1 << k
    return found
