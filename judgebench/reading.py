"""Reading a case's text: line by line, up to its first fault."""

from judgebench.cases import clashes, number_case
from judgebench.weights import going_on, some_outweighs_itself
from judgebench.words import LAW, WEIGH, atom_of, read_line, text_of

NO_FAULT = 0
NO_SUCH_LINE = 1
NAME_AGAIN = 2
SAME_AGAIN = 3
TOO_MANY = 4
NO_RULE = 5
OUTWEIGHS_ITSELF = 6
LAWS_CLASH = 7

MOST_LAWS = 64
MOST_RULES = 10
MOST_ATOMS = 64


class Draft:
    """What the lines so far tell; rows has the weights, the rules in the order in which they were told."""

    def __init__(self):
        self.laws = {}
        self.rules = {}
        self.atoms = {}
        self.rows = []


class Reading:
    """The case of a text; or, where kind isn't NO_FAULT, the text's fault and no case."""

    def __init__(self, kind, place, case):
        self.kind = kind
        self.place = place
        self.case = case


def read_case(t):
    lines = text_of(t).split("\n")
    # What stands behind the last line feed is a line that the text ends within, unless it is empty.
    rest = lines.pop()
    draft = Draft()
    place = 0
    for line in lines:
        kind = take_line(draft, line)
        if kind != NO_FAULT:
            return Reading(kind, place, None)
        place += len(line) + 1
    if rest != "":
        return Reading(NO_SUCH_LINE, len(t), None)
    return Reading(NO_FAULT, 0, number_case(draft.atoms, draft.laws, draft.rules))


def take_line(draft, line):
    """Adds the line to the draft; answers the kind of its fault. A draft with a fault is of no more use."""
    told = read_line(line)
    if told is None:
        return NO_SUCH_LINE
    if told[0] == WEIGH:
        return take_weight(draft, told[1], told[2])
    if told[0] == LAW:
        return take_law(draft, told[1], told[2], told[3])
    return take_rule(draft, told[1], told[2], told[3])


def take_law(draft, name, body, head):
    kind = take_clause(draft, draft.laws, name, body, head)
    if kind != NO_FAULT:
        return kind
    if clashes(number_case(draft.atoms, draft.laws, draft.rules), 0):
        return LAWS_CLASH
    return NO_FAULT


def take_rule(draft, name, body, head):
    draft.atoms[name] = True
    draft.rows.append(0)
    return take_clause(draft, draft.rules, name, body, head)


def take_clause(draft, likes, name, body, head):
    """Adds a law or a rule to likes, those of its own sort."""
    if name in draft.laws or name in draft.rules:
        return NAME_AGAIN
    if len(set(body)) < len(body) or (body, head) in list(likes.values()):
        return SAME_AGAIN
    likes[name] = (body, head)
    for literal in body:
        draft.atoms[atom_of(literal)] = True
    draft.atoms[atom_of(head)] = True
    if len(draft.laws) > MOST_LAWS or len(draft.rules) > MOST_RULES or len(draft.atoms) > MOST_ATOMS:
        return TOO_MANY
    return NO_FAULT


def take_weight(draft, upper, lower):
    if upper not in draft.rules or lower not in draft.rules:
        return NO_RULE
    names = list(draft.rules)
    draft.rows[names.index(upper)] |= 1 << names.index(lower)
    draft.rows = going_on(draft.rows)
    if some_outweighs_itself(draft.rows):
        return OUTWEIGHS_ITSELF
    return NO_FAULT
