"""The refusals of calls 3 on, in their order: -1 for the text's length, -6, -1 for what isn't there, -2."""

import unittest

from helper import call, lines, rules
from judgebench import benches

# Atoms a, b, c, p-a, p-b, p-c: 12 literals.
ABC = lines(*rules("a", "b", "c"))
TWO_JUDGES = [6, 4, 0, 0, 1, 3]
LAWS_ALONE = lines("law a: -> p", "law b: p -> ~q")

# What stands ahead of text and table: values that are there with the case and two judges, and values that aren't.
GOOD = {
    "ground": [()],
    "count": [(0,), (11,)],
    "held": [(0,), (1,), (2,)],
    "clash": [()],
    "common": [(1,), (2,), (3,)],
    "part": [(0, 0), (0, 1), (1, 0), (1, 1)],
    "few": [(0,), (11,)],
}
WRONG = {
    "count": [(12,), (13,), (4294967295,)],
    "held": [(3,), (4,), (4294967295,)],
    "common": [(0,), (4,), (5,), (7,), (256,), (4294967295,)],
    "part": [(0, 2), (2, 0), (2, 2), (1, 8), (8, 1), (0, 4294967295), (4294967295, 0)],
    "few": [(12,), (13,), (4294967295,)],
}
# What isn't there whatever the case and the table.
NEVER = {
    "count": [(4294967295,)],
    "held": [(3,)],
    "common": [(0,)],
    "part": [(0, 4294967295), (4294967295, 0)],
    "few": [(4294967295,)],
}

NO_BENCHES = (
    # There aren't so many numbers for each of 1 to 8 judges.
    [0] * 7, [0] * 8, [0] * 25, [0] * 27, [0] * 3000,
    # Something outweighed that isn't there, or itself.
    [8, 0, 0, 0, 0, 0], [0, 0, 4294967295, 0, 0, 0], [0, 0, 0, 0, 0, 8], [1, 0, 0, 0, 0, 0], [0, 0, 0, 0, 0, 4],
    # Something that's outweighed by one that it outweighs is missing.
    [2, 4, 0, 0, 0, 0], [0, 0, 0, 0, 1, 2], [0, 0, 0, 2, 1, 0],
)
# The same, of fewer than two judges.
NO_BENCHES_FOR_TWO = ([], [0], [0, 0], [0] * 4, [0] * 5, [8, 0, 0], [2, 4, 0])


class Refusals(unittest.TestCase):
    def each(self, table):
        for name, rows in table.items():
            for values in rows:
                yield getattr(benches, name), values

    def refused(self, table, refusal, t, b):
        for function, values in self.each(table):
            self.assertEqual(call(function, *values, t, list(b)), [refusal], (function, values, b))

    def test_no_refusal(self):
        for function, values in self.each(GOOD):
            self.assertIn(call(function, *values, ABC, TWO_JUDGES)[0], (0, -3), (function, values))

    def test_too_long_ahead_of_all(self):
        long = lines(*["weigh a > b"] * 700)
        for t in (ABC + long, long):
            self.assertGreater(len(t), 8300)
            for length in (8193, 8300):
                for b in (TWO_JUDGES, [], [1]):
                    self.refused(GOOD, -1, t[:length], b)
                    self.refused(NEVER, -1, t[:length], b)

    def test_8192_bytes(self):
        weights = lines("weigh a > b")
        for size in range(1, 16):
            t = lines(*rules("a", "b", "c"), "law %s: -> p-a" % ("x" * size))
            if (8192 - len(t)) % len(weights) == 0:
                break
        t = t + weights * ((8192 - len(t)) // len(weights))
        self.assertEqual(len(t), 8192)
        for function, values in self.each(GOOD):
            self.assertIn(call(function, *values, t, TWO_JUDGES)[0], (0, -3), (function, values))

    def test_a_text_with_a_fault_ahead_of_what_is_not_there(self):
        for t in (ABC[:-1], ABC + [10], [10], lines("rule a: = p"), ABC + lines("rule a: => q"),
                  ABC + lines("rule d: p, p => q"), lines(*rules(*"abcdefghijk")), ABC + lines("weigh a > d"),
                  ABC + lines("weigh a > a"), ABC + lines("law x: -> q", "law y: -> ~q")):
            for b in (TWO_JUDGES, [], [1], [0] * 30):
                self.refused(GOOD, -6, t, b)
                self.refused(NEVER, -6, t, b)

    def test_what_is_not_there(self):
        self.refused(WRONG, -1, ABC, TWO_JUDGES)

    def test_what_is_not_there_ahead_of_no_bench(self):
        for b in NO_BENCHES:
            self.refused(NEVER, -1, ABC, b)

    def test_no_bench(self):
        for b in NO_BENCHES:
            self.assertEqual(call(benches.judge, ABC, list(b))[0], -2)
            self.refused(GOOD, -2, ABC, b)

    def test_no_bench_of_fewer_judges(self):
        for b in NO_BENCHES_FOR_TWO:
            self.assertEqual(call(benches.judge, ABC, list(b))[0], -2)
            self.refused({name: GOOD[name] for name in ("ground", "count", "held", "clash", "few")}, -2, ABC, b)

    def test_how_many_judges_are_there_is_rounded_down(self):
        for length, judges in ((0, 0), (1, 0), (2, 0), (4, 1), (5, 1), (7, 2), (8, 2), (23, 7), (25, 8), (26, 8),
                               (27, 9), (28, 9), (30, 10), (3000, 1000)):
            b = [0] * length
            if judges > 0:
                last = min(judges, 32) - 1
                self.refused({"common": [(1,), (1 << last,), ((1 << last) | 1,)]}, -2, ABC, b)
                self.refused({"part": [(0, 0), (judges - 1, 0), (0, judges - 1)]}, -2, ABC, b)
            if judges < 32:
                self.refused({"common": [(1 << judges,), (1 << judges | 1,), (4294967295,)]}, -1, ABC, b)
            self.refused({"part": [(judges, 0), (0, judges), (judges, judges), (judges + 1, 0)]}, -1, ABC, b)

    def test_a_judge_that_there_is_not_ahead_of_a_wrong_row(self):
        for b in ([1, 0, 0], [8, 0, 0], [2, 4, 0], [2, 1, 0]):
            self.refused({"common": [(1,)], "part": [(0, 0)]}, -2, ABC, b)
            self.refused({"common": [(0,), (2,), (3,)], "part": [(0, 1), (1, 0), (1, 1)]}, -1, ABC, b)

    def test_a_case_without_rules(self):
        for b in ([], [0], [0] * 6):
            # Atoms p, q.
            self.assertEqual(call(benches.ground, LAWS_ALONE, b), [-2])
            self.assertEqual(call(benches.ground, [], b), [-2])
            for function in (benches.count, benches.few):
                self.assertEqual(call(function, 3, LAWS_ALONE, b), [-2])
                self.assertEqual(call(function, 4, LAWS_ALONE, b), [-1])
                self.assertEqual(call(function, 0, [], b), [-1])
            for t in (LAWS_ALONE, []):
                for how in (0, 1, 2):
                    self.assertEqual(call(benches.held, how, t, b), [-2])
                self.assertEqual(call(benches.held, 3, t, b), [-1])
                self.assertEqual(call(benches.clash, t, b), [-2])
                # There is no judge.
                for judges in (0, 1, 4294967295):
                    self.assertEqual(call(benches.common, judges, t, b), [-1])
                for x, y in ((0, 0), (0, 1), (1, 0)):
                    self.assertEqual(call(benches.part, x, y, t, b), [-1])


if __name__ == "__main__":
    unittest.main()
