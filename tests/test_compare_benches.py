"""The calls on benches beside a second writing of the document, by its very words, over many small cases."""

import itertools
import random
import re
import unittest

from helper import call
from judgebench import benches
from test_compare import CLAUSE, LITERAL, go_on, model_fault, opposite, some_literal


def subsets(things):
    rows = sorted(things)
    return [frozenset(some) for size in range(len(rows) + 1) for some in itertools.combinations(rows, size)]


class Model:
    """A case whose text has no fault; weights are a set of pairs of names."""

    def __init__(self, text):
        self.laws, self.rules = {}, {}
        for line in text.split("\n")[:-1]:
            clause = CLAUSE.fullmatch(line)
            if clause:
                own = self.laws if line.startswith("law") else self.rules
                own[clause.group(1)] = (re.findall(LITERAL, clause.group(2) or ""), clause.group(4))
        self.names = sorted(self.rules)
        told = [body + [head] for body, head in [*self.laws.values(), *self.rules.values()]]
        self.atoms = sorted({literal.lstrip("~") for row in told for literal in row} | set(self.names))
        self.literals = [sign + atom for atom in self.atoms for sign in ("", "~")]
        self.grounds = {}
        self.sets = subsets(self.names)
        self.follows = {chosen: self.follow(chosen) for chosen in self.sets}
        self.clashing = {chosen for chosen in self.sets if any(opposite(one) in self.follows[chosen] for one in
                                                               self.follows[chosen])}

    def follow(self, chosen):
        clauses = [*self.laws.values(), *[self.rules[name] for name in chosen]]
        held = set(chosen)
        while True:
            more = {head for body, head in clauses if set(body) <= held} - held
            if not more:
                return held
            held |= more

    def strikes(self, over, chosen, rule):
        return any(
            rule not in some and not any((rule, other) in over for other in some)
            and some not in self.clashing and some | {rule} in self.clashing
            for some in subsets(chosen)
        )

    def ground(self, over):
        over = frozenset(over)
        if over not in self.grounds:
            self.grounds[over] = self.find_ground(over)
        return self.grounds[over]

    def find_ground(self, over):
        struck = {chosen: {rule for rule in self.names if self.strikes(over, chosen, rule)} for chosen in self.sets}

        def defended(chosen):
            return {
                rule for rule in self.names
                if all(struck[chosen] & other for other in self.sets if rule in struck[other])
            }

        closed = [chosen for chosen in self.sets if defended(chosen) <= chosen]
        least = [chosen for chosen in closed if all(chosen <= other for other in closed)]
        assert len(least) == 1
        return least[0]

    def number(self, chosen):
        return sum(1 << self.names.index(name) for name in chosen)


def model_ground(model, judges):
    return [0] + [model.number(model.ground(over)) for over in judges]


def model_count(model, judges, literal):
    if literal >= len(model.literals):
        return [-1]
    word = model.literals[literal]
    answer = [0, 0, 0, 0]
    for over in judges:
        held = model.follows[model.ground(over)]
        answer[1 if word in held else 2 if opposite(word) in held else 3] += 1
    return answer


def hold_it(how, judges, holds):
    """Whether some judge, most or all hold it; holds is how many do."""
    return holds > 0 if how == 0 else holds > judges - holds if how == 1 else holds == judges


def model_held(model, judges, how):
    grounds = [model.ground(over) for over in judges]
    rules = [name for name in model.names if hold_it(how, len(judges), sum(name in one for one in grounds))]
    held = [model.follows[one] for one in grounds]
    literals = [k for k, word in enumerate(model.literals) if
                hold_it(how, len(judges), sum(word in one for one in held))]
    return [0, model.number(rules)] + literals


def model_clash(model, judges):
    grounds = [model.ground(over) for over in judges]
    most = {name for name in model.names if hold_it(1, len(judges), sum(name in one for one in grounds))}
    parts = [(len(some), model.number(some)) for some in model.clashing if some <= most]
    return [0, 1, min(parts)[1]] if parts else [0, 0]


def members(chosen):
    return [k for k in range(40) if chosen >> k & 1]


def model_common(model, judges, chosen):
    if not chosen or any(j >= len(judges) for j in members(chosen)):
        return [-1]
    over = set.intersection(*[judges[j] for j in members(chosen)])
    rows = [model.number(y for y in model.names if (x, y) in over) for x in model.names]
    return [0] + rows + [model.number(model.ground(over))]


def model_part(model, judges, x, y):
    if x >= len(judges) or y >= len(judges):
        return [-1]
    first, second = model.follows[model.ground(judges[x])], model.follows[model.ground(judges[y])]
    for k, word in enumerate(model.literals):
        if (word in first) != (word in second):
            return [0, k]
    return [-3]


def model_few(model, judges, literal):
    """All sets of judges are gone through, but for the empty one, which has no weights in common."""
    if literal >= len(model.literals):
        return [-1]
    sets = []
    for chosen in range(1, 1 << len(judges)):
        over = set.intersection(*[judges[j] for j in members(chosen)])
        if model.literals[literal] in model.follows[model.ground(over)]:
            sets.append((len(members(chosen)), chosen))
    return [0, min(sets)[1]] if sets else [-3]


def some_case(source):
    """A text without a fault and with one to five rules."""
    names = source.sample(["a", "b", "c", "d", "e", "f", "g", "h"], source.choice([1, 2, 3, 3, 4, 4, 4, 5]))
    atoms = ["p", "q", "r"][:source.choice([1, 2, 2, 3])]
    text = ""
    for name in names + ["l%d" % k for k in range(source.choice([0, 0, 1, 2, 4]))]:
        # A law mostly speaks of rules' names, so that greater clashes come about.
        speaks = atoms + names * (2 if name not in names else 1 if source.random() < 0.2 else 0)
        while True:
            body = [some_literal(source, speaks) for place in range(source.choice([0, 0, 1, 1, 2, 3]))]
            head = some_literal(source, speaks)
            row = "%s %s:%s%s %s %s\n" % (
                "rule" if name in names else "law", name, " " if body else "", ", ".join(body),
                "=>" if name in names else "->", source.choice(["", "~"]) + head.lstrip("~"),
            )
            if model_fault(text + row)[0] is None:
                break
        text += row
    return text


def some_weights(source, names, shares):
    order = source.sample(names, len(names))
    much = source.choice(shares)
    return go_on((x, y) for x, y in itertools.combinations(order, 2) if source.random() < much)


def clashing_case(source):
    """A text in which some sets of three and more rules clash, so that what most hold clashes now and then."""
    names = list("abcde")[:source.choice([3, 4, 5])]
    sets = [source.sample(names, source.choice([3, 3, len(names)])) for k in range(source.choice([1, 2, 3]))]
    text = "".join("rule %s: => p-%s\n" % (name, name) for name in names)
    for k, some in enumerate(sets):
        row = "law l%d: %s -> ~%s\n" % (k, ", ".join(some[1:]), some[0])
        text += row if model_fault(text + row)[0] is None else ""
    return text


def some_bench(source, draw):
    """A case's text, its model, each judge's weights, and the table."""
    text = draw(source)
    model = Model(text)
    # Judges who weigh much differ much in what they hold.
    shares = source.choice([[0, 0.2, 0.5, 1], [0.5, 1, 1, 1]])
    judges = [some_weights(source, model.names, shares) for j in range(source.choice([1, 2, 3, 3, 4, 5, 8]))]
    table = [model.number(y for y in model.names if (x, y) in over) for over in judges for x in model.names]
    return [ord(sign) for sign in text], model, judges, table


class Compare(unittest.TestCase):
    def both(self, seed, plain, clashing):
        """So many benches of the one sort and of the other."""
        source = random.Random(seed)
        for draw in [some_case] * plain + [clashing_case] * clashing:
            yield some_bench(source, draw)

    def test_ground(self):
        sizes, least = set(), set()
        for t, model, judges, b in self.both(11, 200, 50):
            self.assertEqual(call(benches.ground, t, b), model_ground(model, judges), (t, b))
            sizes |= {len(model.ground(over)) for over in judges}
            least |= {len(some) for some in model.clashing if not any(other < some for other in model.clashing)}
        # So that what is drawn has something to tell.
        self.assertLessEqual({0, 1, 2, 3, 4}, sizes)
        self.assertLessEqual({1, 2, 3}, least)

    def test_count(self):
        told = set()
        for t, model, judges, b in self.both(12, 70, 30):
            for literal in range(len(model.literals) + 2):
                answer = call(benches.count, literal, t, b)
                self.assertEqual(answer, model_count(model, judges, literal), (literal, t, b))
                told.add(tuple(number > 0 for number in answer))
        self.assertEqual(len(told), 8)

    def test_held(self):
        differ = 0
        for t, model, judges, b in self.both(13, 100, 100):
            answers = [call(benches.held, how, t, b) for how in range(3)]
            self.assertEqual(answers, [model_held(model, judges, how) for how in range(3)], (t, b))
            differ += len({tuple(answer) for answer in answers}) == 3
        self.assertGreater(differ, 20)

    def test_clash(self):
        told = set()
        for t, model, judges, b in self.both(14, 50, 250):
            answer = call(benches.clash, t, b)
            self.assertEqual(answer, model_clash(model, judges), (t, b))
            told.add(tuple(answer))
        self.assertGreater(len(told), 3)

    def test_common(self):
        fewer = 0
        for t, model, judges, b in self.both(15, 50, 50):
            for chosen in range(min(2 << len(judges), 40)):
                answer = call(benches.common, chosen, t, b)
                self.assertEqual(answer, model_common(model, judges, chosen), (chosen, t, b))
                fewer += answer[0] == 0 and answer[1:] not in [[*rows, one] for rows, one in self.own(t, model, b)]
        self.assertGreater(fewer, 100)

    def own(self, t, model, b):
        """Judge by judge the rows and the ground."""
        size = len(model.names)
        return [(b[j * size:(j + 1) * size], one) for j, one in enumerate(benches.ground(t, b)[1:])]

    def test_part(self):
        told = set()
        for t, model, judges, b in self.both(16, 50, 50):
            for x, y in itertools.product(range(len(judges) + 1), repeat=2):
                answer = call(benches.part, x, y, t, b)
                self.assertEqual(answer, model_part(model, judges, x, y), (x, y, t, b))
                told.add(tuple(answer))
        self.assertLessEqual({(-1,), (-3,), (0, 0), (0, 2), (0, 4)}, told)

    def test_few(self):
        told = set()
        for t, model, judges, b in self.both(17, 40, 40):
            for literal in range(len(model.literals) + 1):
                answer = call(benches.few, literal, t, b)
                self.assertEqual(answer, model_few(model, judges, literal), (literal, t, b))
                told.add(tuple(answer))
        self.assertLessEqual({(-1,), (-3,), (0, 1), (0, 2), (0, 4)}, told)


if __name__ == "__main__":
    unittest.main()
