"""Call 1: make."""

import unittest

from helper import lines, made, rules

ABC = lines(*rules("a", "b", "c"))


class Tables(unittest.TestCase):
    def test_one_judge_without_weights(self):
        self.assertEqual(made(1, ABC), [0, 0, 0, 0])

    def test_one_weight(self):
        self.assertEqual(made(1, ABC, (0, 0, 2)), [0, 4, 0, 0])
        self.assertEqual(made(1, ABC, (0, 2, 0)), [0, 0, 0, 1])

    def test_judge_by_judge(self):
        self.assertEqual(made(2, ABC, (1, 0, 1), (0, 2, 1)), [0, 0, 0, 2, 2, 0, 0])

    def test_judges_may_weigh_against_each_other(self):
        self.assertEqual(made(2, ABC, (0, 0, 1), (1, 1, 0)), [0, 2, 0, 0, 0, 1, 0])

    def test_going_on(self):
        self.assertEqual(made(1, ABC, (0, 0, 1), (0, 1, 2)), [0, 6, 4, 0])
        self.assertEqual(made(1, ABC, (0, 1, 2), (0, 0, 1)), [0, 6, 4, 0])
        self.assertEqual(made(1, ABC, (0, 2, 0), (0, 0, 1)), [0, 2, 0, 3])

    def test_going_on_far_in_any_order(self):
        t = lines(*rules(*"abcdefghij"))
        chain = [7, 2, 9, 0, 4, 1, 8, 3, 6, 5]
        weights = [(0, x, y) for x, y in zip(chain, chain[1:])]
        table = [0] * 10
        for place, x in enumerate(chain):
            table[x] = sum(1 << y for y in chain[place + 1:])
        for told in (weights, weights[::-1], weights[1::2] + weights[::2]):
            self.assertEqual(made(1, t, *told), [0] + table)

    def test_going_on_stays_with_its_judge(self):
        self.assertEqual(made(2, ABC, (0, 0, 1), (1, 1, 2)), [0, 2, 0, 0, 0, 4, 0])

    def test_a_weight_told_again_and_one_that_follows(self):
        weights = [(0, 0, 1), (0, 1, 2), (0, 0, 1), (0, 0, 2)]
        self.assertEqual(made(1, ABC, *weights), [0, 6, 4, 0])

    def test_a_thousand_weights(self):
        self.assertEqual(made(1, ABC, *[(0, 0, 1), (0, 2, 1)] * 500), [0, 2, 0, 2])

    def test_rules_are_numbered_by_name_not_by_line(self):
        t = lines(*rules("b", "ab", "a", "a-", "a0"))
        # In order: a, a-, a0, ab, b. The weight is b over a.
        self.assertEqual(made(1, t, (0, 4, 0)), [0, 0, 0, 0, 0, 1])

    def test_the_cases_own_weights_are_not_looked_at(self):
        t = ABC + lines("weigh a > b", "weigh b > c")
        self.assertEqual(made(1, t), [0, 0, 0, 0])
        self.assertEqual(made(1, t, (0, 2, 0)), [0, 0, 0, 1])

    def test_laws_have_no_row(self):
        self.assertEqual(made(1, lines("law a: -> q", "rule b: => p", "law c: q -> r")), [0, 0])

    def test_ten_rules_and_eight_judges(self):
        t = lines(*rules(*"abcdefghij"))
        self.assertEqual(made(8, t), [0] + [0] * 80)
        self.assertEqual(made(8, t, (7, 9, 8)), [0] + [0] * 79 + [256])


class OutOfRange(unittest.TestCase):
    def test_one_to_eight_judges(self):
        t = lines("rule a: => p")
        for judges in range(1, 9):
            self.assertEqual(made(judges, t), [0] + [0] * judges)
        for judges in (0, 9, 10, 256, 4294967295):
            self.assertEqual(made(judges, t), [-1])

    def test_a_case_without_rules(self):
        self.assertEqual(made(1, []), [-1])
        self.assertEqual(made(8, lines("law a: -> p")), [-1])


class WeightsOfNone(unittest.TestCase):
    def test_a_judge_that_there_is_not(self):
        self.assertEqual(made(2, ABC, (1, 0, 1)), [0, 0, 0, 0, 2, 0, 0])
        self.assertEqual(made(2, ABC, (2, 0, 1)), [-2, 1, 0])
        self.assertEqual(made(8, ABC, (8, 0, 1)), [-2, 1, 0])
        self.assertEqual(made(2, ABC, (4294967295, 0, 1)), [-2, 1, 0])

    def test_a_rule_that_there_is_not(self):
        for wrong in (3, 10, 64, 4294967295):
            self.assertEqual(made(2, ABC, (1, wrong, 1)), [-2, 1, 0])
            self.assertEqual(made(2, ABC, (1, 1, wrong)), [-2, 1, 0])

    def test_the_first_one_is_told_by_weight(self):
        good = (0, 0, 1)
        self.assertEqual(made(2, ABC, good, good, (0, 0, 3), (0, 3, 0), (2, 0, 1)), [-2, 1, 2])
        self.assertEqual(made(2, ABC, good, (2, 0, 1), (0, 3, 0)), [-2, 1, 1])
        self.assertEqual(made(2, ABC, (1, 3, 0), (0, 3, 0)), [-2, 1, 0])
        self.assertEqual(made(2, ABC, *[good] * 999, (0, 3, 3)), [-2, 1, 999])


class Circles(unittest.TestCase):
    def test_a_rule_over_itself(self):
        self.assertEqual(made(1, ABC, (0, 1, 1)), [-2, 2, 0])

    def test_in_several_steps(self):
        self.assertEqual(made(1, ABC, (0, 0, 1), (0, 1, 0)), [-2, 2, 0])
        self.assertEqual(made(1, ABC, (0, 0, 1), (0, 1, 2), (0, 2, 0)), [-2, 2, 0])
        t = lines(*rules(*"abcdefghij"))
        circle = [(0, x, (x + 3) % 10) for x in range(10)]
        self.assertEqual(made(1, t, *circle), [-2, 2, 0])
        for left_out in range(10):
            self.assertEqual(made(1, t, *circle[:left_out] + circle[left_out + 1:])[0], 0)

    def test_the_first_judge_is_told(self):
        self.assertEqual(made(3, ABC, (2, 0, 0), (1, 0, 1), (1, 1, 0), (0, 0, 1)), [-2, 2, 1])
        self.assertEqual(made(8, ABC, (7, 2, 2)), [-2, 2, 7])

    def test_steps_of_different_judges_are_no_circle(self):
        self.assertEqual(made(2, ABC, (0, 0, 1), (1, 1, 2), (0, 2, 0)), [0, 2, 0, 3, 0, 4, 0])

    def test_a_weight_of_none_is_told_first(self):
        self.assertEqual(made(2, ABC, (0, 1, 1), (1, 0, 3)), [-2, 1, 1])
        self.assertEqual(made(2, ABC, (2, 1, 1), (0, 1, 1)), [-2, 1, 0])


class Order(unittest.TestCase):
    def test_too_long_ahead_of_all(self):
        long = lines(*["not a line"] * 800)
        self.assertGreater(len(long), 8192)
        self.assertEqual(made(0, long[:8193], (0, 0, 0)), [-1])
        self.assertEqual(made(0, long[:8192], (0, 0, 0)), [-6])

    def test_no_case_ahead_of_how_many_judges(self):
        self.assertEqual(made(0, lines("rule a: = p")), [-6])
        self.assertEqual(made(9, [10]), [-6])

    def test_how_many_judges_and_rules_ahead_of_weights(self):
        self.assertEqual(made(0, ABC, (0, 0, 0)), [-1])
        self.assertEqual(made(9, ABC, (9, 3, 3)), [-1])
        self.assertEqual(made(1, [], (0, 0, 0)), [-1])
        self.assertEqual(made(1, lines("law a: -> p"), (1, 1, 1)), [-1])


if __name__ == "__main__":
    unittest.main()
