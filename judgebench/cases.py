"""Cases with their numbers: what follows from a set of rules, and whether it clashes.

A set of rules is a number, bit i for rule i; a set of literals is one too, by the literals' numbers.
"""

from judgebench.bits import has, within
from judgebench.words import atom_of, is_opposite


class Case:
    """Atoms by name, laws as (body, head), rules as (name, body, head): each in the order of its numbers.

    Of laws and rules, name, body and head are sets of literals.
    """

    def __init__(self, atoms, laws, rules):
        self.atoms = atoms
        self.laws = laws
        self.rules = rules


def number_case(atoms, laws, rules):
    """The case of these names: laws and rules are dicts, by name, of a body and a head."""
    # The signs of a name are ordered as their bytes are, so sorted texts are in the order that is asked.
    ordered = sorted(atoms)
    numbers = {}
    for number, atom in enumerate(ordered):
        numbers[atom] = number
    numbered_laws = []
    for name in sorted(laws):
        clause = laws[name]
        numbered_laws.append((literal_set(numbers, clause[0]), literal_set(numbers, [clause[1]])))
    numbered_rules = []
    for name in sorted(rules):
        clause = rules[name]
        own = literal_set(numbers, [name])
        numbered_rules.append((own, literal_set(numbers, clause[0]), literal_set(numbers, [clause[1]])))
    return Case(ordered, numbered_laws, numbered_rules)


def literal_number(numbers, literal):
    opposite = 1 if is_opposite(literal) else 0
    return 2 * numbers[atom_of(literal)] + opposite


def literal_set(numbers, literals):
    found = 0
    for literal in literals:
        found |= 1 << literal_number(numbers, literal)
    return found


def is_literal_of(case, number):
    return number < 2 * len(case.atoms)


def what_follows(case, chosen):
    """The set of literals that follow from the chosen set of rules."""
    found = 0
    clauses = list(case.laws)
    for i, rule in enumerate(case.rules):
        if has(chosen, i):
            found |= rule[0]
            clauses.append((rule[1], rule[2]))
    before = -1
    while found != before:
        before = found
        for clause in clauses:
            if found & clause[0] == clause[0]:
                found |= clause[1]
    return found


def clashes(case, chosen):
    found = what_follows(case, chosen)
    return any([(found >> (2 * number)) & 3 == 3 for number in range(len(case.atoms))])


def least_clashes(case):
    """The clashing sets of rules within which no other clashing set is, rising."""
    found = []
    # Numbers rise, so all that is within a set is looked at ahead of it.
    for chosen in range(1 << len(case.rules)):
        if not any([within(one, chosen) for one in found]) and clashes(case, chosen):
            found.append(chosen)
    return found
