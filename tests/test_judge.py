"""Call 2: judge."""

import unittest

from helper import judged, lines, made, rules

ABC = lines(*rules("a", "b", "c"))


class BenchesOfTheCase(unittest.TestCase):
    def test_nothing_is_told(self):
        self.assertEqual(judged(ABC, 0, 0, 0), [0])
        self.assertEqual(judged(ABC, 6, 4, 0), [0])
        self.assertEqual(judged(ABC, 2, 0, 2, 0, 0, 3), [0])

    def test_one_to_eight_judges(self):
        for judges in range(1, 9):
            self.assertEqual(judged(ABC, *[6, 4, 0] * judges), [0])

    def test_judges_may_weigh_against_each_other(self):
        self.assertEqual(judged(ABC, 2, 0, 0, 0, 1, 0), [0])

    def test_the_cases_own_weights_are_not_looked_at(self):
        t = ABC + lines("weigh a > b", "weigh b > c")
        self.assertEqual(judged(t, 0, 0, 0), [0])
        self.assertEqual(judged(t, 0, 1, 3), [0])

    def test_what_make_makes(self):
        t = lines(*rules(*"abcdefghij"))
        weights = [(j, (x * 3 + j) % 10, (x * 3 + 3 + j) % 10) for j in range(8) for x in range(9)]
        table = made(8, t, *weights)
        self.assertEqual(table[0], 0)
        self.assertEqual(judged(t, *table[1:]), [0])

    def test_ten_rules(self):
        t = lines(*rules(*"abcdefghij"))
        self.assertEqual(judged(t, *[(1 << i) - 1 for i in range(10)]), [0])
        self.assertEqual(judged(t, *[1023 - (1 << i + 1) + 1 for i in range(10)] * 8), [0])


class WrongLength(unittest.TestCase):
    def test_empty(self):
        self.assertEqual(judged(ABC), [-2, 1, 0, 0])

    def test_too_short_and_too_long(self):
        for length in (1, 2, 4, 5, 7, 23, 25, 26, 27, 30, 48, 3000):
            self.assertEqual(judged(ABC, *[0] * length), [-2, 1, 0, 0])

    def test_nine_judges(self):
        self.assertEqual(judged(ABC, *[0] * 27), [-2, 1, 0, 0])
        self.assertEqual(judged(lines("rule a: => p"), *[0] * 9), [-2, 1, 0, 0])
        self.assertEqual(judged(lines("rule a: => p"), *[0] * 8), [0])

    def test_a_case_without_rules(self):
        for t in ([], lines("law a: -> p")):
            for length in (0, 1, 8, 9):
                self.assertEqual(judged(t, *[0] * length), [-2, 1, 0, 0])

    def test_ahead_of_the_other_kinds(self):
        self.assertEqual(judged(ABC, 1, 8, 0, 0), [-2, 1, 0, 0])
        self.assertEqual(judged(ABC, *[2, 4, 0] * 9), [-2, 1, 0, 0])


class WrongRows(unittest.TestCase):
    def test_something_that_is_not_there(self):
        for wrong in (8, 9, 16, 1 << 10, 1 << 31, 4294967295):
            self.assertEqual(judged(ABC, 0, 0, wrong), [-2, 2, 0, 2])
            self.assertEqual(judged(ABC, 0, 0, 0, 0, wrong, 0), [-2, 2, 1, 1])

    def test_itself(self):
        self.assertEqual(judged(ABC, 1, 0, 0), [-2, 2, 0, 0])
        self.assertEqual(judged(ABC, 0, 2, 0), [-2, 2, 0, 1])
        self.assertEqual(judged(ABC, 0, 0, 4), [-2, 2, 0, 2])
        self.assertEqual(judged(ABC, *[0] * 23, 4), [-2, 2, 7, 2])
        self.assertEqual(judged(lines("rule a: => p"), 0, 0, 1), [-2, 2, 2, 0])

    def test_the_first_by_judge_then_by_rule(self):
        self.assertEqual(judged(ABC, 0, 0, 8, 1, 0, 0), [-2, 2, 0, 2])
        self.assertEqual(judged(ABC, 0, 0, 0, 0, 2, 8, 1, 0, 0), [-2, 2, 1, 1])

    def test_ahead_of_what_is_missing(self):
        self.assertEqual(judged(ABC, 2, 4, 0, 0, 0, 4), [-2, 2, 1, 2])
        self.assertEqual(judged(ABC, 2, 4, 8), [-2, 2, 0, 2])


class Missing(unittest.TestCase):
    def test_what_follows_by_going_on(self):
        self.assertEqual(judged(ABC, 2, 4, 0), [-2, 3, 0, 0])
        self.assertEqual(judged(ABC, 4, 1, 0), [-2, 3, 0, 1])
        self.assertEqual(judged(ABC, 0, 1, 2), [-2, 3, 0, 2])

    def test_a_circle(self):
        self.assertEqual(judged(ABC, 2, 1, 0), [-2, 3, 0, 0])
        self.assertEqual(judged(ABC, 0, 4, 2), [-2, 3, 0, 1])
        self.assertEqual(judged(ABC, 6, 5, 3), [-2, 3, 0, 0])

    def test_the_first_by_judge_then_by_rule(self):
        t = lines(*rules("a", "b", "c", "d"))
        # Of judge 1: b over c over d over a, each pair alone, so b misses d and c misses a.
        self.assertEqual(judged(t, 0, 0, 0, 0, 0, 4, 8, 1), [-2, 3, 1, 1])
        self.assertEqual(judged(t, 0, 12, 8, 1, 2, 4, 0, 0), [-2, 3, 0, 1])
        self.assertEqual(judged(t, 0, 13, 8, 1, 2, 4, 0, 0), [-2, 3, 0, 2])

    def test_each_judge_by_itself(self):
        self.assertEqual(judged(ABC, 2, 0, 0, 0, 4, 0), [0])
        self.assertEqual(judged(ABC, 6, 4, 0, 2, 4, 0), [-2, 3, 1, 0])
        self.assertEqual(judged(ABC, *[6, 4, 0] * 7, 2, 4, 0), [-2, 3, 7, 0])

    def test_rules_are_numbered_by_name(self):
        t = lines(*rules("z", "y", "x"))
        self.assertEqual(judged(t, 2, 4, 0), [-2, 3, 0, 0])


class Order(unittest.TestCase):
    def test_too_long_ahead_of_no_case(self):
        long = lines(*["not a line"] * 800)
        self.assertEqual(judged(long[:8193]), [-1])
        self.assertEqual(judged(long[:8192]), [-6])

    def test_no_case_ahead_of_the_table(self):
        self.assertEqual(judged(ABC[:-1], 0, 0, 0), [-6])
        self.assertEqual(judged(ABC[:-1], 1), [-6])
        self.assertEqual(judged([10]), [-6])


if __name__ == "__main__":
    unittest.main()
