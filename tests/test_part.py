"""Call 8: part."""

import unittest

from helper import grounds, lines, number, parted, rules

# a and b clash, and neither has to do with c.
PAIR = lines("rule a: => p", "rule b: => ~p", "rule c: => q")
FOR_A, FOR_B, FOR_NONE = [2, 0, 0], [0, 1, 0], [0, 0, 0]


class Part(unittest.TestCase):
    def test_over_a_rules_name(self):
        self.assertEqual(parted(0, 1, PAIR, *FOR_A + FOR_B), [0, number("a", PAIR)])
        self.assertEqual(parted(0, 1, PAIR, *FOR_B + FOR_NONE), [0, number("b", PAIR)])

    def test_over_another_literal(self):
        # Atoms p, x, y.
        t = lines("rule x: => p", "rule y: => ~p")
        self.assertEqual(parted(0, 1, t, 2, 0, 0, 0), [0, 0])
        self.assertEqual(parted(0, 1, t, 0, 1, 0, 0), [0, 1])
        # It stands for the one, its opposite for the other.
        self.assertEqual(parted(0, 1, t, 2, 0, 0, 1), [0, 0])

    def test_over_an_opposite(self):
        # Judge 0 holds y alone, judge 1 nothing.
        t = lines("rule x: => q", "rule y: => ~q", "law l: y -> ~p")
        self.assertEqual(parted(0, 1, t, 0, 1, 0, 0), [0, number("~p", t)])
        self.assertEqual(parted(1, 0, t, 0, 1, 0, 0), [0, number("~p", t)])

    def test_the_first_one(self):
        t = lines("rule m: => p", "rule n: => ~p", "law l: m -> z", "law k: m -> ~c", "law j: m -> d")
        # Atoms c, d, m, n, p, z.
        self.assertEqual(parted(0, 1, t, 2, 0, 0, 0), [0, 1])
        self.assertEqual(parted(0, 1, t + lines("law i: -> ~c"), 2, 0, 0, 0), [0, 2])
        self.assertEqual(parted(0, 1, t + lines("law i: -> ~c", "law h: -> d"), 2, 0, 0, 0), [0, 4])

    def test_the_same_for_both_orders(self):
        for b in (FOR_A + FOR_B, FOR_A + FOR_NONE, FOR_NONE + FOR_B):
            self.assertEqual(parted(0, 1, PAIR, *b), parted(1, 0, PAIR, *b))

    def test_just_these_two(self):
        b = FOR_A + FOR_NONE + FOR_B + FOR_A
        self.assertEqual(parted(1, 2, PAIR, *b), [0, number("b", PAIR)])
        self.assertEqual(parted(0, 3, PAIR, *b), [-3])
        self.assertEqual(parted(2, 3, PAIR, *b), [0, number("a", PAIR)])

    def test_eight_judges_and_ten_rules(self):
        t = lines(*rules(*"abcdefghij"), "law x: i -> ~j")
        b = [0] * 70 + [0] * 9 + [256]
        self.assertEqual(parted(0, 7, t, *b), [0, number("j", t)])
        self.assertEqual(parted(7, 6, t, *b), [0, number("j", t)])
        self.assertEqual(parted(5, 6, t, *b), [-3])

    def test_the_cases_own_weights_are_not_looked_at(self):
        t = PAIR + lines("weigh a > b")
        self.assertEqual(parted(0, 1, t, *FOR_NONE + FOR_A), [0, number("a", PAIR)])
        self.assertEqual(parted(0, 1, t, *FOR_NONE + FOR_NONE), [-3])


class OverNone(unittest.TestCase):
    def test_a_judge_and_itself(self):
        for j in range(3):
            self.assertEqual(parted(j, j, PAIR, *FOR_A + FOR_B + FOR_NONE), [-3])
        self.assertEqual(parted(0, 0, PAIR, *FOR_A), [-3])

    def test_other_weights_and_the_same_grounds(self):
        b = [2, 0, 0, 6, 4, 0]
        self.assertEqual(grounds(PAIR, *b), [0, 5, 5])
        self.assertEqual(parted(0, 1, PAIR, *b), [-3])
        self.assertEqual(parted(0, 1, PAIR, 0, 0, 0, 4, 4, 0), [-3])


class JudgesThatThereAreNot(unittest.TestCase):
    def test_x_or_y(self):
        b = FOR_A + FOR_B
        for wrong in (2, 3, 8, 4294967295):
            for right in (0, 1):
                self.assertEqual(parted(wrong, right, PAIR, *b), [-1])
                self.assertEqual(parted(right, wrong, PAIR, *b), [-1])
            self.assertEqual(parted(wrong, wrong, PAIR, *b), [-1])

    def test_the_eighth_judge_and_the_ninth(self):
        b = FOR_A * 7 + FOR_B
        self.assertEqual(parted(7, 0, PAIR, *b), [0, 0])
        self.assertEqual(parted(8, 0, PAIR, *b), [-1])
        self.assertEqual(parted(0, 8, PAIR, *b), [-1])


if __name__ == "__main__":
    unittest.main()
