"""Call 7: common."""

import unittest

from helper import grounds, lines, rules, shared

# a and b clash, and neither has to do with c.
PAIR = lines("rule a: => p", "rule b: => ~p", "rule c: => q")


class InCommon(unittest.TestCase):
    def test_one_judge(self):
        b = [2, 0, 0, 0, 1, 0, 0, 0, 3]
        self.assertEqual(shared(1, PAIR, *b), [0, 2, 0, 0, 5])
        self.assertEqual(shared(2, PAIR, *b), [0, 0, 1, 0, 6])
        self.assertEqual(shared(4, PAIR, *b), [0, 0, 0, 3, 4])
        self.assertEqual(grounds(PAIR, *b), [0, 5, 6, 4])

    def test_a_bench_of_one(self):
        self.assertEqual(shared(1, PAIR, 6, 4, 0), [0, 6, 4, 0, 5])
        self.assertEqual(shared(1, lines("rule a: => p"), 0), [0, 0, 1])

    def test_some_judges(self):
        b = [6, 4, 0, 6, 0, 2, 4, 5, 0]
        self.assertEqual(shared(3, PAIR, *b), [0, 6, 0, 0, 5])
        self.assertEqual(shared(5, PAIR, *b), [0, 4, 4, 0, 4])
        self.assertEqual(shared(6, PAIR, *b), [0, 4, 0, 0, 4])

    def test_all_judges(self):
        self.assertEqual(shared(7, PAIR, 6, 4, 0, 6, 0, 2, 4, 5, 0), [0, 4, 0, 0, 4])
        self.assertEqual(shared(7, PAIR, 6, 4, 0, 2, 0, 0, 2, 0, 2), [0, 2, 0, 0, 5])

    def test_nothing_in_common(self):
        self.assertEqual(shared(3, PAIR, 2, 0, 0, 0, 1, 0), [0, 0, 0, 0, 4])
        self.assertEqual(shared(3, PAIR, 6, 4, 0, 0, 1, 3), [0, 0, 0, 0, 4])
        self.assertEqual(shared(7, PAIR, 6, 4, 0, 6, 4, 0, 0, 0, 0), [0, 0, 0, 0, 4])

    def test_the_same_weights(self):
        for judges in range(1, 256):
            self.assertEqual(shared(judges, PAIR, *[6, 4, 0] * 8), [0, 6, 4, 0, 5])

    def test_the_ground_may_be_less_than_what_each_has(self):
        # p stands for each of the two, a for the one and b for the other, and neither by what they have in common.
        t = lines("rule a: => ~b", "rule b: => ~a", "law x: a -> p", "law y: b -> p")
        self.assertEqual(shared(3, t, 2, 0, 0, 1), [0, 0, 0, 0])

    def test_eight_judges_and_ten_rules(self):
        t = lines(*rules(*"abcdefghij"), "law x: a -> ~b", "law y: i -> ~j")
        rising = [(1 << i) - 1 for i in range(10)]
        b = rising * 7 + [0] * 9 + [256]
        self.assertEqual(shared(127, t, *b), [0] + rising + [766])
        self.assertEqual(shared(255, t, *b), [0] + [0] * 9 + [256] + [764])
        self.assertEqual(shared(129, t, *b), [0] + [0] * 9 + [256] + [764])

    def test_the_cases_own_weights_are_not_looked_at(self):
        t = PAIR + lines("weigh a > b")
        self.assertEqual(shared(1, t, 0, 0, 0), [0, 0, 0, 0, 4])
        self.assertEqual(shared(3, t, 0, 1, 0, 0, 1, 0), [0, 0, 1, 0, 6])


class SetsOfJudges(unittest.TestCase):
    def test_no_judges(self):
        self.assertEqual(shared(0, PAIR, 2, 0, 0), [-1])
        self.assertEqual(shared(0, PAIR, *[0] * 24), [-1])

    def test_a_judge_that_there_is_not(self):
        for judges in (2, 3, 4, 128, 256, 257, 1 << 31, 4294967295):
            self.assertEqual(shared(judges, PAIR, 2, 0, 0), [-1])
        for judges in (8, 9, 15, 16, 24, 4294967288):
            self.assertEqual(shared(judges, PAIR, *[0] * 9), [-1])

    def test_eight_judges(self):
        self.assertEqual(shared(128, PAIR, *[0] * 21, 2, 0, 0), [0, 2, 0, 0, 5])
        for judges in (256, 257, 511, 4294967295):
            self.assertEqual(shared(judges, PAIR, *[0] * 24), [-1])


if __name__ == "__main__":
    unittest.main()
