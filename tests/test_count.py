"""Call 4: count."""

import unittest

from helper import call, counted, lines, number, rules
from judgebench.benches import count

# a and b clash, and neither has to do with c.
PAIR = lines("rule a: => p", "rule b: => ~p", "rule c: => q")
FOR_A, FOR_B, FOR_NONE = [2, 0, 0], [0, 1, 0], [0, 0, 0]


class Counts(unittest.TestCase):
    def test_stands_falls_and_neither(self):
        self.assertEqual(counted("p", PAIR, *FOR_A + FOR_B + FOR_NONE), [0, 1, 1, 1])
        self.assertEqual(counted("~p", PAIR, *FOR_A + FOR_B + FOR_NONE), [0, 1, 1, 1])
        self.assertEqual(counted("p", PAIR, *FOR_A * 3 + FOR_B + FOR_NONE * 2), [0, 3, 1, 2])
        self.assertEqual(counted("~p", PAIR, *FOR_NONE * 2 + FOR_A * 3 + FOR_B), [0, 1, 3, 2])
        self.assertEqual(counted("q", PAIR, *FOR_A + FOR_B + FOR_NONE), [0, 3, 0, 0])
        self.assertEqual(counted("~q", PAIR, *FOR_A + FOR_B + FOR_NONE), [0, 0, 3, 0])

    def test_a_rules_name(self):
        b = FOR_A * 2 + FOR_B + FOR_NONE
        self.assertEqual(counted("a", PAIR, *b), [0, 2, 0, 2])
        self.assertEqual(counted("~a", PAIR, *b), [0, 0, 2, 2])
        self.assertEqual(counted("b", PAIR, *b), [0, 1, 0, 3])
        self.assertEqual(counted("c", PAIR, *b), [0, 4, 0, 0])

    def test_a_rules_name_that_falls(self):
        t = lines("rule a: => ~b", "rule b: => p")
        self.assertEqual(counted("b", t, 2, 0, 2, 0, 0, 1, 0, 0), [0, 1, 2, 1])

    def test_what_follows_by_laws_and_bodies(self):
        t = PAIR + lines("law x: p, q -> r", "law y: ~p -> ~r", "rule d: r => s", "law z: -> u")
        more = [FOR_A + [0], FOR_B + [0], FOR_NONE + [0]]
        self.assertEqual(counted("r", t, *more[0] + more[1] + more[2]), [0, 1, 1, 1])
        self.assertEqual(counted("s", t, *more[0] + more[1] + more[2]), [0, 1, 0, 2])
        self.assertEqual(counted("u", t, *more[0] + more[1] + more[2]), [0, 3, 0, 0])
        self.assertEqual(counted("~u", t, *more[0] + more[1] + more[2]), [0, 0, 3, 0])

    def test_a_literal_that_nothing_says(self):
        self.assertEqual(counted("q", lines("rule a: q => p"), 0, 0), [0, 0, 0, 2])

    def test_one_to_eight_judges(self):
        for judges in range(1, 9):
            self.assertEqual(counted("p", PAIR, *FOR_A * judges), [0, judges, 0, 0])
            self.assertEqual(counted("p", PAIR, *FOR_B * judges), [0, 0, judges, 0])
            self.assertEqual(counted("p", PAIR, *FOR_NONE * judges), [0, 0, 0, judges])

    def test_ten_rules(self):
        t = lines(*rules(*"abcdefghij"))
        self.assertEqual(counted("p-j", t, *[0] * 80), [0, 8, 0, 0])

    def test_the_cases_own_weights_are_not_looked_at(self):
        self.assertEqual(counted("p", PAIR + lines("weigh a > b"), *FOR_NONE + FOR_B), [0, 0, 1, 1])


class Numbers(unittest.TestCase):
    def test_each_literal_of_the_case(self):
        # Atoms a, b, c, p, q.
        b = FOR_A + FOR_B + FOR_NONE
        told = [call(count, literal, PAIR, b) for literal in range(10)]
        self.assertEqual([answer[1] for answer in told], [1, 0, 1, 0, 3, 0, 1, 1, 3, 0])
        for answer in told:
            self.assertEqual(sum(answer), 3)

    def test_the_last_one_and_the_one_behind_it(self):
        self.assertEqual(number("~q", PAIR), 9)
        self.assertEqual(call(count, 9, PAIR, FOR_A), [0, 0, 1, 0])
        for literal in (10, 11, 128, 4294967295):
            self.assertEqual(call(count, literal, PAIR, FOR_A), [-1])

    def test_64_atoms(self):
        t = lines("rule a: => p", *["law b%d: -> q%02d" % (n, n) for n in range(62)])
        self.assertEqual(call(count, 126, t, [0, 0]), [0, 2, 0, 0])
        self.assertEqual(call(count, 127, t, [0, 0]), [0, 0, 2, 0])
        self.assertEqual(call(count, 128, t, [0, 0]), [-1])

    def test_one_atom(self):
        t = lines("rule a: => a")
        self.assertEqual(call(count, 0, t, [0]), [0, 1, 0, 0])
        self.assertEqual(call(count, 1, t, [0]), [0, 0, 1, 0])
        self.assertEqual(call(count, 2, t, [0]), [-1])


if __name__ == "__main__":
    unittest.main()
