"""Sets of whole numbers, each kept as one number: bit k for its member k."""


def has(chosen, k):
    return (chosen >> k) & 1 == 1


def within(inner, outer):
    return inner & outer == inner
