"""The calls: benches of judges who weigh the rules of one case."""

from judgebench.bits import has, in_many, members, within
from judgebench.cases import is_literal_of, least_clashes, what_follows
from judgebench.reading import NO_FAULT, read_case
from judgebench.strikes import ground_by
from judgebench.weights import going_on, in_common, outweighed_by_any, some_outweighs_itself

LONGEST_TEXT = 8192
MOST_JUDGES = 8

OUT_OF_RANGE = -1
NO_BENCH = -2
NOTHING_FOUND = -3
NO_CASE = -6

# What make tells with NO_BENCH.
WEIGHT_OF_NONE = 1
JUDGE_IN_A_CIRCLE = 2

# What judge tells with NO_BENCH.
WRONG_LENGTH = 1
WRONG_ROW = 2
MISSING = 3

# How many judges held is asked of.
SOME = 0
MOST = 1
ALL = 2


class Bench:
    """A case with its least clashes, and judge by judge the weights, as rows; where refusal isn't 0, none of these."""

    def __init__(self, refusal, case, least, weighings):
        self.refusal = refusal
        self.case = case
        self.least = least
        self.weighings = weighings


def make(judges, t, weights):
    """The table of the bench of so many judges with these weights (judge, x, y, judge, x, y, ..)."""
    reading = read_case(t)
    refusal = text_refusal(t, reading)
    if refusal != 0:
        return [refusal]
    rules = len(reading.case.rules)
    if judges < 1 or judges > MOST_JUDGES or rules == 0:
        return [OUT_OF_RANGE]
    for k in range(len(weights) // 3):
        if weights[3 * k] >= judges or weights[3 * k + 1] >= rules or weights[3 * k + 2] >= rules:
            return [NO_BENCH, WEIGHT_OF_NONE, k]
    table = []
    for j in range(judges):
        rows = going_on(told_rows(j, rules, weights))
        if some_outweighs_itself(rows):
            return [NO_BENCH, JUDGE_IN_A_CIRCLE, j]
        table.extend(rows)
    return [0] + table


def judge(t, b):
    """Whether b is the table of a bench of the case; if it isn't, the first reason."""
    reading = read_case(t)
    refusal = text_refusal(t, reading)
    if refusal != 0:
        return [refusal]
    fault = table_fault(len(reading.case.rules), b)
    if fault is None:
        return [0]
    return [NO_BENCH] + fault


def ground(t, b):
    """Each judge's ground."""
    bench = read_bench(t, b, lambda case, size: True)
    if bench.refusal != 0:
        return [bench.refusal]
    return [0] + grounds_of(bench)


def count(literal, t, b):
    """For how many judges the literal stands, for how many it falls, for how many neither."""
    bench = read_bench(t, b, lambda case, size: is_literal_of(case, literal))
    if bench.refusal != 0:
        return [bench.refusal]
    standing = standing_by(bench.case, grounds_of(bench))
    stands = len([one for one in standing if has(one, literal)])
    # A literal and its opposite differ in the last bit of their numbers.
    falls = len([one for one in standing if has(one, literal ^ 1)])
    # A ground doesn't clash, so for no judge a literal both stands and falls.
    return [0, stands, falls, len(standing) - stands - falls]


def held(how, t, b):
    """The set of rules, then the literals, rising, that some judge holds, most, or all."""
    bench = read_bench(t, b, lambda case, size: how <= ALL)
    if bench.refusal != 0:
        return [bench.refusal]
    enough = enough_judges(how, len(bench.weighings))
    grounds = grounds_of(bench)
    literals = in_many(standing_by(bench.case, grounds), enough)
    return [0, in_many(grounds, enough)] + members(literals)


def clash(t, b):
    """0: the rules that most hold don't clash; else 1 and, of their parts that clash, the first of the least."""
    bench = read_bench(t, b, lambda case, size: True)
    if bench.refusal != 0:
        return [bench.refusal]
    most = in_many(grounds_of(bench), enough_judges(MOST, len(bench.weighings)))
    # A clashing part with the fewest rules has no other one within, so the least clashes alone are looked at.
    parts = [one for one in bench.least if within(one, most)]
    if parts == []:
        return [0, 0]
    return [0, 1, min(parts, key=lambda one: (len(members(one)), one))]


def common(judges, t, b):
    """The weights that the judges of the set have in common, for each rule a set; then the ground by these."""
    bench = read_bench(t, b, lambda case, size: judges != 0 and judges >> size == 0)
    if bench.refusal != 0:
        return [bench.refusal]
    rows = in_common([bench.weighings[j] for j in members(judges)])
    return [0] + rows + [ground_by(bench.least, rows)]


def part(x, y, t, b):
    """The first literal over which judges x and y part."""
    bench = read_bench(t, b, lambda case, size: x < size and y < size)
    if bench.refusal != 0:
        return [bench.refusal]
    standing = standing_by(bench.case, grounds_of(bench))
    apart = members(standing[x] ^ standing[y])
    if apart == []:
        return [NOTHING_FOUND]
    return [0, apart[0]]


def few(literal, t, b):
    """Of the sets of judges by whose weights in common the literal stands the first of the least."""
    bench = read_bench(t, b, lambda case, size: is_literal_of(case, literal))
    if bench.refusal != 0:
        return [bench.refusal]
    # What stands by weights in common stands for each of these judges, so a set of one is always among the least.
    for j, stands in enumerate(standing_by(bench.case, grounds_of(bench))):
        if has(stands, literal):
            return [0, 1 << j]
    return [NOTHING_FOUND]


def read_bench(t, b, fits):
    """The bench of a text and a table, or the first refusal.

    fits tells, of the case and of how many judges there are, whether all else that is handed in is there.
    """
    reading = read_case(t)
    refusal = text_refusal(t, reading)
    if refusal != 0:
        return Bench(refusal, None, [], [])
    rules = len(reading.case.rules)
    if not fits(reading.case, judges_in(rules, b)):
        return Bench(OUT_OF_RANGE, None, [], [])
    if table_fault(rules, b) is not None:
        return Bench(NO_BENCH, None, [], [])
    weighings = [b[j * rules:(j + 1) * rules] for j in range(judges_in(rules, b))]
    return Bench(0, reading.case, least_clashes(reading.case), weighings)


def grounds_of(bench):
    """Judge by judge the ground."""
    return [ground_by(bench.least, rows) for rows in bench.weighings]


def standing_by(case, grounds):
    """Ground by ground the set of literals that stand."""
    return [what_follows(case, chosen) for chosen in grounds]


def enough_judges(how, judges):
    """How many of so many judges must hold something for some judge, most or all to hold it."""
    if how == SOME:
        return 1
    if how == MOST:
        return judges // 2 + 1
    return judges


def judges_in(rules, b):
    """How many judges there are, be b a bench's table or not."""
    return 0 if rules == 0 else len(b) // rules


def text_refusal(t, reading):
    """The refusal that the text brings about; 0: none."""
    if len(t) > LONGEST_TEXT:
        return OUT_OF_RANGE
    if reading.kind != NO_FAULT:
        return NO_CASE
    return 0


def told_rows(j, rules, weights):
    """For each rule the set that it outweighs for judge j, as far as it is told in so many words."""
    rows = [0] * rules
    for k in range(len(weights) // 3):
        if weights[3 * k] == j:
            rows[weights[3 * k + 1]] |= 1 << weights[3 * k + 2]
    return rows


def table_fault(rules, b):
    """Kind, judge and rule, as judge tells them; None: b is a bench's table over so many rules."""
    if rules == 0 or len(b) % rules != 0 or len(b) < rules or len(b) > MOST_JUDGES * rules:
        return [WRONG_LENGTH, 0, 0]
    for place, row in enumerate(b):
        i = place % rules
        if row >> rules != 0 or has(row, i):
            return [WRONG_ROW, place // rules, i]
    for place, row in enumerate(b):
        i = place % rules
        start = place - i
        reached = outweighed_by_any(b[start:start + rules], row)
        if reached | row != row:
            return [MISSING, place // rules, i]
    return None
