"""make and judge beside a second writing of the document, by patterns and sets, over many small inputs."""

import random
import re
import unittest

from helper import judged, made
from judgebench.reading import read_case

NAME = r"[a-z][a-z0-9-]{0,14}"
LITERAL = "~?" + NAME
CLAUSE = re.compile(r"(?:law|rule) (%s):((?: %s,){0,5} %s)? (->|=>) (%s)" % (NAME, LITERAL, LITERAL, LITERAL))
WEIGHT = re.compile(r"weigh (%s) > (%s)" % (NAME, NAME))


def opposite(literal):
    return literal[1:] if literal[0] == "~" else "~" + literal


def follow(laws):
    held = set()
    while True:
        more = {head for body, head in laws if set(body) <= held} - held
        if not more:
            return held
        held |= more


def go_on(pairs):
    pairs = set(pairs)
    while True:
        more = {(x, w) for x, y in pairs for z, w in pairs if y == z} - pairs
        if not more:
            return pairs
        pairs |= more


def model_fault(text):
    """Kind and place, or None; and the rules' names."""
    laws, rules, atoms, pairs, place = {}, {}, set(), set(), 0
    for line in text.split("\n")[:-1]:
        clause, weight = CLAUSE.fullmatch(line), WEIGHT.fullmatch(line)
        kind = None
        if weight:
            pairs.add(weight.groups())
            if not set(weight.groups()) <= set(rules):
                kind = 5
            elif any(x == y for x, y in go_on(pairs)):
                kind = 6
        elif clause and line.startswith("law") == (clause.group(3) == "->"):
            name, body, head = clause.group(1), tuple(re.findall(LITERAL, clause.group(2) or "")), clause.group(4)
            own = laws if line.startswith("law") else rules
            if name in laws or name in rules:
                kind = 2
            elif len(body) != len(set(body)) or (body, head) in own.values():
                kind = 3
            own[name] = (body, head)
            atoms |= {literal.lstrip("~") for literal in body + (head,)} | set(rules)
            held = follow(laws.values())
            if kind is None and (len(laws) > 64 or len(rules) > 10 or len(atoms) > 64):
                kind = 4
            if kind is None and own is laws and any(opposite(literal) in held for literal in held):
                kind = 7
        else:
            kind = 1
        if kind is not None:
            return (kind, place), []
        place += len(line) + 1
    if not text.endswith("\n") and text != "":
        return (1, len(text)), []
    return None, sorted(rules)


def model_make(judges, text, weights):
    fault, rules = model_fault(text)
    if fault:
        return [-6]
    if not 1 <= judges <= 8 or not rules:
        return [-1]
    for k, (j, x, y) in enumerate(weights):
        if j not in range(judges) or x not in range(len(rules)) or y not in range(len(rules)):
            return [-2, 1, k]
    table = [0]
    for j in range(judges):
        pairs = go_on((x, y) for who, x, y in weights if who == j)
        if any(x == y for x, y in pairs):
            return [-2, 2, j]
        table += [sum(1 << y for y in range(len(rules)) if (x, y) in pairs) for x in range(len(rules))]
    return table


def model_judge(text, b):
    fault, rules = model_fault(text)
    if fault:
        return [-6]
    if not rules or len(b) not in [len(rules) * judges for judges in range(1, 9)]:
        return [-2, 1, 0, 0]
    size = len(rules)
    sets = [{y for y in range(40) if number >> y & 1} for number in b]
    places = [(j, x) for j in range(len(b) // size) for x in range(size)]
    for j, x in places:
        if x in sets[j * size + x] or not sets[j * size + x] <= set(range(size)):
            return [-2, 2, j, x]
    for j, x in places:
        for y in sets[j * size + x]:
            if not sets[j * size + y] <= sets[j * size + x]:
                return [-2, 3, j, x]
    return [0]


def some_literal(source, atoms):
    return source.choice(["", "", "~"]) + source.choice(atoms)


def some_line(source, names, atoms):
    if source.random() < 0.3:
        return "weigh %s > %s" % (source.choice(names), source.choice(names))
    word, arrow = source.choice([("law", "->"), ("rule", "=>"), ("rule", "=>")])
    body = [some_literal(source, atoms) for place in range(source.choice([0, 0, 1, 1, 2, 3, 6, 7]))]
    # A literal that stands twice is taken out mostly, so that most texts go on.
    if source.random() < 0.9:
        body = list(dict.fromkeys(body))
    middle = "".join(" " + part for part in ", ".join(body).split(" ") if part)
    return "%s %s:%s %s %s" % (word, source.choice(names), middle, arrow, some_literal(source, atoms))


def some_text(source):
    names = ["n%s" % k for k in range(source.choice([3, 12, 40]))] + ["n"]
    atoms = ["p", "q", "r", "s"] + names[:source.choice([0, 2, 40])]
    text = ""
    for k in range(source.choice([1, 3, 6, 12, 30])):
        line = some_line(source, names, atoms) + "\n"
        # A line with a fault mostly isn't kept, so that texts grow long enough for the rarer kinds.
        if model_fault(text + line)[0] is None or source.random() < 0.05:
            text += line
    if source.random() < 0.1 and text:
        place = source.randrange(len(text))
        text = text[:place] + source.choice(["", " ", "\n", ":", "x", "~", "\r", "\x00", "\xe9"]) + text[place + 1:]
    return text


class Compare(unittest.TestCase):
    def test_texts(self):
        source = random.Random(1)
        kinds = set()
        for turn in range(1500):
            text = some_text(source)
            fault, rules = model_fault(text)
            reading = read_case([ord(sign) for sign in text])
            kinds.add(reading.kind)
            self.assertEqual((reading.kind, reading.place), fault or (0, 0), text)
            if fault is None:
                self.assertEqual(len(reading.case.rules), len(rules), text)
        self.assertEqual(kinds, {0, 1, 2, 3, 4, 5, 6, 7})

    def test_make(self):
        source = random.Random(2)
        firsts = set()
        for turn in range(1500):
            text = some_text(source)
            size = max(1, len(model_fault(text)[1]))
            judges = source.choice([0, 1, 1, 2, 2, 3, 3, 8, 8, 9])
            edge = 1 if source.random() < 0.1 else 0
            weights = []
            for k in range(source.choice([0, 1, 2, 4, 10])):
                x, y = source.randrange(size + edge), source.randrange(size + edge)
                # Weights that mostly fall in number make circles rare.
                if source.random() < 0.9:
                    x, y = max(x, y), min(x, y)
                weights.append((source.randrange(max(1, judges) + edge), x, y))
            answer = made(judges, [ord(sign) for sign in text], *weights)
            self.assertEqual(answer, model_make(judges, text, weights), (judges, text, weights))
            firsts.add(tuple(answer[:2]) if answer[0] == -2 else answer[0])
            if answer[0] == 0:
                self.assertEqual(judged([ord(sign) for sign in text], *answer[1:]), [0])
        self.assertEqual(firsts, {0, -1, -6, (-2, 1), (-2, 2)})

    def test_judge(self):
        source = random.Random(3)
        firsts = set()
        for turn in range(1500):
            text = some_text(source)
            size = max(1, len(model_fault(text)[1]))
            length = size * source.choice([1, 1, 2, 3, 8, 9]) + source.choice([0, 0, 0, 0, 1, -1])
            b = [source.randrange(1 << size) & ~(1 << place % size) for place in range(length)]
            sparse = source.random() < 0.7
            for place in range(length):
                if sparse and source.random() < 0.8:
                    b[place] = 0
            if source.random() < 0.1 and b:
                b[source.randrange(len(b))] = source.randrange(1 << size + 1)
            answer = judged([ord(sign) for sign in text], *b)
            self.assertEqual(answer, model_judge(text, b), (text, b))
            firsts.add(tuple(answer[:2]))
        self.assertEqual(firsts, {(0,), (-6,), (-2, 1), (-2, 2), (-2, 3)})


if __name__ == "__main__":
    unittest.main()
