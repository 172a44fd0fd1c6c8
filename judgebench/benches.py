"""The calls: benches of judges who weigh the rules of one case."""

from judgebench.reading import NO_FAULT, read_case
from judgebench.weights import going_on, outweighed_by_any, some_outweighs_itself

LONGEST_TEXT = 8192
MOST_JUDGES = 8

OUT_OF_RANGE = -1
NO_BENCH = -2
NO_CASE = -6

# What make tells with NO_BENCH.
WEIGHT_OF_NONE = 1
JUDGE_IN_A_CIRCLE = 2

# What judge tells with NO_BENCH.
WRONG_LENGTH = 1
WRONG_ROW = 2
MISSING = 3


def make(judges, t, weights):
    """The table of the bench of so many judges with these weights (judge, x, y, judge, x, y, ..)."""
    reading = read_case(t)
    refusal = text_refusal(t, reading)
    if refusal != 0:
        return [refusal]
    rules = len(reading.case.rules)
    if judges < 1 or judges > MOST_JUDGES or rules == 0:
        return [OUT_OF_RANGE]
    for k in range(len(weights) // 3):
        if weights[3 * k] >= judges or weights[3 * k + 1] >= rules or weights[3 * k + 2] >= rules:
            return [NO_BENCH, WEIGHT_OF_NONE, k]
    table = []
    for j in range(judges):
        rows = going_on(told_rows(j, rules, weights))
        if some_outweighs_itself(rows):
            return [NO_BENCH, JUDGE_IN_A_CIRCLE, j]
        table.extend(rows)
    return [0] + table


def judge(t, b):
    """Whether b is the table of a bench of the case; if it isn't, the first reason."""
    reading = read_case(t)
    refusal = text_refusal(t, reading)
    if refusal != 0:
        return [refusal]
    fault = table_fault(len(reading.case.rules), b)
    if fault is None:
        return [0]
    return [NO_BENCH] + fault


def text_refusal(t, reading):
    """The refusal that the text brings about; 0: none."""
    if len(t) > LONGEST_TEXT:
        return OUT_OF_RANGE
    if reading.kind != NO_FAULT:
        return NO_CASE
    return 0


def told_rows(j, rules, weights):
    """For each rule the set that it outweighs for judge j, as far as it is told in so many words."""
    rows = [0] * rules
    for k in range(len(weights) // 3):
        if weights[3 * k] == j:
            rows[weights[3 * k + 1]] |= 1 << weights[3 * k + 2]
    return rows


def table_fault(rules, b):
    """Kind, judge and rule, as judge tells them; None: b is a bench's table over so many rules."""
    if rules == 0 or len(b) % rules != 0 or len(b) < rules or len(b) > MOST_JUDGES * rules:
        return [WRONG_LENGTH, 0, 0]
    for place, row in enumerate(b):
        i = place % rules
        if row >> rules != 0 or (row >> i) & 1 == 1:
            return [WRONG_ROW, place // rules, i]
    for place, row in enumerate(b):
        i = place % rules
        start = place - i
        reached = outweighed_by_any(b[start:start + rules], row)
        if reached | row != row:
            return [MISSING, place // rules, i]
    return None
