"""The calls on benches beside a second writing of the document, by sets and by its very words, over many small cases."""

import itertools
import random
import re
import unittest

from helper import call
from judgebench import benches
from test_compare import CLAUSE, LITERAL, go_on, model_fault, opposite, some_literal


def subsets(things):
    rows = sorted(things)
    return [frozenset(some) for size in range(len(rows) + 1) for some in itertools.combinations(rows, size)]


class Model:
    """A case whose text has no fault; weights are a set of pairs of names."""

    def __init__(self, text):
        self.laws, self.rules = {}, {}
        for line in text.split("\n")[:-1]:
            clause = CLAUSE.fullmatch(line)
            if clause:
                own = self.laws if line.startswith("law") else self.rules
                own[clause.group(1)] = (re.findall(LITERAL, clause.group(2) or ""), clause.group(4))
        self.names = sorted(self.rules)
        told = [body + [head] for body, head in [*self.laws.values(), *self.rules.values()]]
        self.atoms = sorted({literal.lstrip("~") for row in told for literal in row} | set(self.names))
        self.literals = [sign + atom for atom in self.atoms for sign in ("", "~")]
        self.sets = subsets(self.names)
        self.follows = {chosen: self.follow(chosen) for chosen in self.sets}
        self.clashing = {chosen for chosen in self.sets if any(opposite(one) in self.follows[chosen] for one in
                                                               self.follows[chosen])}

    def follow(self, chosen):
        clauses = [*self.laws.values(), *[self.rules[name] for name in chosen]]
        held = set(chosen)
        while True:
            more = {head for body, head in clauses if set(body) <= held} - held
            if not more:
                return held
            held |= more

    def strikes(self, over, chosen, rule):
        return any(
            rule not in some and not any((rule, other) in over for other in some)
            and some not in self.clashing and some | {rule} in self.clashing
            for some in subsets(chosen)
        )

    def ground(self, over):
        struck = {chosen: {rule for rule in self.names if self.strikes(over, chosen, rule)} for chosen in self.sets}

        def defended(chosen):
            return {
                rule for rule in self.names
                if all(struck[chosen] & other for other in self.sets if rule in struck[other])
            }

        closed = [chosen for chosen in self.sets if defended(chosen) <= chosen]
        least = [chosen for chosen in closed if all(chosen <= other for other in closed)]
        assert len(least) == 1
        return least[0]

    def number(self, chosen):
        return sum(1 << self.names.index(name) for name in chosen)


def model_ground(model, judges):
    return [0] + [model.number(model.ground(over)) for over in judges]


def model_count(model, judges, literal):
    if literal >= len(model.literals):
        return [-1]
    word = model.literals[literal]
    answer = [0, 0, 0, 0]
    for over in judges:
        held = model.follows[model.ground(over)]
        answer[1 if word in held else 2 if opposite(word) in held else 3] += 1
    return answer


def some_case(source):
    """A text without a fault and with one to five rules."""
    names = source.sample(["a", "b", "c", "d", "e", "f", "g", "h"], source.choice([1, 2, 3, 3, 4, 4, 4, 5]))
    atoms = ["p", "q", "r"][:source.choice([1, 2, 2, 3])]
    text = ""
    for name in names + ["l%d" % k for k in range(source.choice([0, 0, 1, 2, 4]))]:
        # A law mostly speaks of rules' names, so that greater clashes come about.
        speaks = atoms + names * (2 if name not in names else 1 if source.random() < 0.2 else 0)
        while True:
            body = [some_literal(source, speaks) for place in range(source.choice([0, 0, 1, 1, 2, 3]))]
            head = some_literal(source, speaks)
            row = "%s %s:%s%s %s %s\n" % (
                "rule" if name in names else "law", name, " " if body else "", ", ".join(body),
                "=>" if name in names else "->", source.choice(["", "~"]) + head.lstrip("~"),
            )
            if model_fault(text + row)[0] is None:
                break
        text += row
    return text


def some_weights(source, names):
    order = source.sample(names, len(names))
    much = source.choice([0, 0.2, 0.5, 1])
    return go_on((x, y) for x, y in itertools.combinations(order, 2) if source.random() < much)


def some_bench(source):
    """A case's text, its model, each judge's weights, and the table."""
    text = some_case(source)
    model = Model(text)
    judges = [some_weights(source, model.names) for j in range(source.choice([1, 2, 2, 3, 3, 4, 8]))]
    table = [model.number(y for y in model.names if (x, y) in over) for over in judges for x in model.names]
    return [ord(sign) for sign in text], model, judges, table


class Compare(unittest.TestCase):
    def benches(self, seed, turns):
        source = random.Random(seed)
        for turn in range(turns):
            yield some_bench(source)

    def test_ground(self):
        sizes, least = set(), set()
        for t, model, judges, b in self.benches(11, 250):
            self.assertEqual(call(benches.ground, t, b), model_ground(model, judges), (t, b))
            sizes |= {len(model.ground(over)) for over in judges}
            least |= {len(some) for some in model.clashing if not any(other < some for other in model.clashing)}
        # So that what is drawn has something to tell.
        self.assertLessEqual({0, 1, 2, 3, 4}, sizes)
        self.assertLessEqual({1, 2, 3}, least)

    def test_count(self):
        told = set()
        for t, model, judges, b in self.benches(12, 100):
            for literal in range(len(model.literals) + 2):
                answer = call(benches.count, literal, t, b)
                self.assertEqual(answer, model_count(model, judges, literal), (literal, t, b))
                told.add(tuple(number > 0 for number in answer))
        self.assertEqual(len(told), 8)


if __name__ == "__main__":
    unittest.main()
