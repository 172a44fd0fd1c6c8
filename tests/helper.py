"""What the tests share: texts written as rows, and calls that watch what is handed in."""

import re

from judgebench.benches import clash, common, count, few, ground, held, judge, make, part


class Watched(list):
    """A list that fails the test at once if somebody changes it, if only for a while."""

    def refuse(self, *args, **kwargs):
        raise AssertionError("what was handed in is changed")

    append = clear = extend = insert = pop = remove = reverse = sort = refuse
    __setitem__ = __delitem__ = __iadd__ = __imul__ = refuse


def lines(*rows):
    """The bytes of a text that has these lines."""
    return [ord(sign) for row in rows for sign in row + "\n"]


def rules(*names):
    """Lines of rules that are all different, without bodies."""
    return ["rule %s: => p-%s" % (name, name) for name in names]


def number(literal, t):
    """The number of a literal of the case."""
    atoms = set()
    for row in "".join(chr(byte) for byte in t).split("\n")[:-1]:
        word, name, rest = row.split(" ", 2)
        if word != "weigh":
            atoms |= set(re.findall("[a-z][a-z0-9-]*", rest))
        if word == "rule":
            atoms.add(name[:-1])
    return 2 * sorted(atoms).index(literal.lstrip("~")) + literal.count("~")


def call(function, *values):
    """Calls twice, with watched lists; the answers must be one answer, of plain whole numbers in a plain list."""
    before = [list(value) if isinstance(value, list) else value for value in values]
    watched = [Watched(value) if isinstance(value, list) else value for value in values]
    answer = function(*watched)
    kept = list(answer)
    again = function(*watched)
    if again is answer or kept != answer or again != answer:
        raise AssertionError("a second call answers something else: %r, %r" % (kept, again))
    after = [list(value) if isinstance(value, list) else value for value in watched]
    if after != before:
        raise AssertionError("what was handed in is changed")
    if type(answer) is not list or any(type(number) is not int for number in answer):
        raise AssertionError("not a list of whole numbers: %r" % (answer,))
    return answer


def made(judges, t, *weights):
    """make's answer; each weight is a triple."""
    return call(make, judges, t, [number for weight in weights for number in weight])


def judged(t, *b):
    return call(judge, t, list(b))


def grounds(t, *b):
    return call(ground, t, list(b))


def counted(literal, t, *b):
    """count's answer; the literal is written out."""
    return call(count, number(literal, t), t, list(b))


def holding(how, t, *b):
    """held's answer, the literals as their numbers."""
    return call(held, how, t, list(b))


def clashing(t, *b):
    return call(clash, t, list(b))


def numbers(t, *literals):
    """The numbers of literals of the case, rising."""
    return sorted(number(literal, t) for literal in literals)


def shared(judges, t, *b):
    """common's answer."""
    return call(common, judges, t, list(b))


def parted(x, y, t, *b):
    return call(part, x, y, t, list(b))


def fewest(literal, t, *b):
    """few's answer; the literal is written out."""
    return call(few, number(literal, t), t, list(b))
