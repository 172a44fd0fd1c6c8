"""Call 9: few."""

import unittest

from helper import call, fewest, lines, number, rules
from judgebench.benches import few

# a and b clash, and neither has to do with c.
PAIR = lines("rule a: => p", "rule b: => ~p", "rule c: => q")
FOR_A, FOR_B, FOR_NONE = [2, 0, 0], [0, 1, 0], [0, 0, 0]


class Few(unittest.TestCase):
    def test_the_first_judge(self):
        self.assertEqual(fewest("p", PAIR, *FOR_A + FOR_B), [0, 1])
        self.assertEqual(fewest("p", PAIR, *FOR_A * 3), [0, 1])
        self.assertEqual(fewest("q", PAIR, *FOR_NONE + FOR_A + FOR_B), [0, 1])

    def test_a_later_judge_alone(self):
        self.assertEqual(fewest("~p", PAIR, *FOR_A + FOR_B), [0, 2])
        self.assertEqual(fewest("p", PAIR, *FOR_B + FOR_NONE + FOR_A), [0, 4])
        self.assertEqual(fewest("p", PAIR, *FOR_B + FOR_NONE + FOR_A + FOR_A), [0, 4])

    def test_none(self):
        self.assertEqual(fewest("p", PAIR, *FOR_B + FOR_NONE), [-3])
        self.assertEqual(fewest("~q", PAIR, *FOR_A + FOR_B), [-3])
        self.assertEqual(fewest("~a", PAIR, *FOR_A + FOR_B + FOR_NONE), [-3])

    def test_a_rules_name(self):
        b = FOR_NONE + FOR_B + FOR_A
        self.assertEqual(fewest("a", PAIR, *b), [0, 4])
        self.assertEqual(fewest("b", PAIR, *b), [0, 2])
        self.assertEqual(fewest("c", PAIR, *b), [0, 1])

    def test_a_rules_name_that_falls(self):
        t = lines("rule a: => ~b", "rule b: => p")
        self.assertEqual(fewest("~b", t, 0, 1, 0, 0, 2, 0), [0, 4])

    def test_what_laws_say_stands_for_all(self):
        self.assertEqual(fewest("r", PAIR + lines("law x: -> r"), *FOR_B + FOR_NONE), [0, 1])

    def test_one_judge(self):
        self.assertEqual(fewest("p", PAIR, *FOR_A), [0, 1])
        self.assertEqual(fewest("p", PAIR, *FOR_B), [-3])

    def test_eight_judges(self):
        for j in range(8):
            self.assertEqual(fewest("p", PAIR, *FOR_B * j + FOR_A + FOR_NONE * (7 - j)), [0, 1 << j])
            self.assertEqual(fewest("p", PAIR, *FOR_NONE * j + FOR_A * (8 - j)), [0, 1 << j])
        self.assertEqual(fewest("p", PAIR, *FOR_B * 4 + FOR_NONE * 4), [-3])

    def test_ten_rules(self):
        t = lines(*rules(*"abcdefghij"), "law x: i -> ~j")
        self.assertEqual(fewest("p-j", t, *[0] * 70 + [0] * 9 + [256]), [0, 128])
        self.assertEqual(fewest("j", t, *[0] * 70 + [0] * 9 + [256]), [0, 128])
        self.assertEqual(fewest("i", t, *[0] * 70 + [0] * 9 + [256]), [-3])

    def test_the_cases_own_weights_are_not_looked_at(self):
        t = PAIR + lines("weigh a > b")
        self.assertEqual(fewest("p", t, *FOR_NONE), [-3])
        self.assertEqual(fewest("p", t, *FOR_NONE + FOR_A), [0, 2])


class Numbers(unittest.TestCase):
    def test_each_literal_of_the_case(self):
        # Atoms a, b, c, p, q.
        told = [call(few, literal, PAIR, FOR_NONE + FOR_B + FOR_A) for literal in range(11)]
        self.assertEqual(told, [[0, 4], [-3], [0, 2], [-3], [0, 1], [-3], [0, 4], [0, 2], [0, 1], [-3], [-1]])

    def test_the_last_one_and_the_one_behind_it(self):
        t = PAIR + lines("law x: b -> ~z")
        self.assertEqual(number("~z", t), 11)
        self.assertEqual(call(few, 11, t, FOR_A + FOR_B), [0, 2])
        self.assertEqual(call(few, 11, t, FOR_A), [-3])
        for literal in (12, 13, 128, 4294967295):
            self.assertEqual(call(few, literal, t, FOR_A + FOR_B), [-1])

    def test_64_atoms(self):
        t = lines("rule a: => p", *["law b%d: -> ~q%02d" % (n, n) for n in range(62)])
        self.assertEqual(call(few, 127, t, [0, 0]), [0, 1])
        self.assertEqual(call(few, 126, t, [0, 0]), [-3])
        self.assertEqual(call(few, 128, t, [0, 0]), [-1])


if __name__ == "__main__":
    unittest.main()
