"""Call 6: clash."""

import unittest

from helper import clashing, grounds, lines, made, rules


def bench(t, names, *left_out):
    """A table by which each judge leaves out the rules of its own text of names: all others outweigh these."""
    order = sorted(names)
    weights = [
        (j, order.index(x), order.index(y))
        for j, out in enumerate(left_out) for x in names if x not in out for y in out
    ]
    return made(len(left_out), t, *weights)[1:]


class NoClash(unittest.TestCase):
    def test_rules_that_do_not_clash(self):
        t = lines(*rules(*"abc"))
        self.assertEqual(clashing(t, 0, 0, 0), [0, 0])
        self.assertEqual(clashing(t, *[6, 4, 0] * 8), [0, 0])

    def test_one_judge(self):
        t = lines("rule a: => p", "rule b: => ~p")
        for b in ((0, 0), (2, 0), (0, 1)):
            self.assertEqual(clashing(t, *b), [0, 0])

    def test_two_rules_of_which_no_more_than_half_hold_each(self):
        t = lines("rule a: => p", "rule b: => ~p")
        self.assertEqual(clashing(t, 2, 0, 0, 1), [0, 0])
        self.assertEqual(clashing(t, 2, 0, 0, 1, 2, 0), [0, 0])
        self.assertEqual(clashing(t, *[2, 0, 0, 1] * 4), [0, 0])

    def test_nothing_held(self):
        self.assertEqual(clashing(lines("rule a: => ~a", "rule b: => ~b"), 0, 0), [0, 0])

    def test_just_half_of_the_judges(self):
        # Of four judges two hold each of b and c, three hold a.
        t = lines(*rules(*"abc"), "law x: a, b -> ~c")
        b = bench(t, "abc", "a", "b", "c", "bc")
        self.assertEqual(grounds(t, *b), [0, 6, 5, 3, 1])
        self.assertEqual(clashing(t, *b), [0, 0])


class Clash(unittest.TestCase):
    def test_three_judges_of_whom_each_two_hold_a_rule(self):
        t = lines(*rules(*"abc"), "law x: a, b -> ~c")
        b = bench(t, "abc", "a", "b", "c")
        self.assertEqual(b, [0, 1, 1, 2, 0, 2, 4, 4, 0])
        self.assertEqual(grounds(t, *b), [0, 6, 5, 3])
        self.assertEqual(clashing(t, *b), [0, 1, 7])

    def test_one_more_than_half_of_the_judges(self):
        t = lines(*rules(*"abc"), "law x: a, b -> ~c")
        self.assertEqual(clashing(t, *bench(t, "abc", "a", "b", "c", "a")), [0, 0])
        self.assertEqual(clashing(t, *bench(t, "abc", "a", "a", "b", "b", "c")), [0, 1, 7])
        self.assertEqual(clashing(t, *bench(t, "abc", "a", "a", "b", "b", "c", "c")), [0, 1, 7])

    def test_by_what_the_rules_say(self):
        t = lines("rule c: => p", "rule e: => q", "rule g: p, q => r", "rule a: => ~r", "rule b: => s")
        b = bench(t, "abceg", "a", "c", "e")
        self.assertEqual(clashing(t, *b), [0, 1, 29])

    def test_only_what_most_hold(self):
        # a, b and c clash, and d, e and f; of these most hold d and e alone.
        t = lines(*rules(*"abcdef"), "law x: a, b -> ~c", "law y: d, e -> ~f")
        b = bench(t, "abcdef", "af", "bf", "cf")
        self.assertEqual(grounds(t, *b), [0, 30, 29, 27])
        self.assertEqual(clashing(t, *b), [0, 1, 7])

    def test_the_fewest_rules_though_the_number_is_greater(self):
        t = lines(*rules(*"abcdefg"), "law x: a, b, c -> ~d", "law y: e, f -> ~g")
        b = bench(t, "abcdefg", "ae", "bf", "cg")
        self.assertEqual(grounds(t, *b), [0, 110, 93, 59])
        self.assertEqual(clashing(t, *b), [0, 1, 112])

    def test_the_fewest_rules_and_the_number_is_less(self):
        t = lines(*rules(*"abcdefg"), "law x: a, b -> ~c", "law y: d, e, f -> ~g")
        self.assertEqual(clashing(t, *bench(t, "abcdefg", "ae", "bf", "cg")), [0, 1, 7])

    def test_of_as_many_rules_the_least_number(self):
        for laws in (("law x: a, d -> ~f", "law y: b, c -> ~e"), ("law y: a, d -> ~f", "law x: b, c -> ~e")):
            t = lines(*rules(*"abcdef"), *laws)
            # By their rules' order a, d, f is first; by number b, c, e.
            self.assertEqual(clashing(t, *bench(t, "abcdef", "ab", "dc", "fe")), [0, 1, 22])

    def test_eight_judges_and_ten_rules(self):
        t = lines(*rules(*"abcdefghij"), "law x: b, d, f -> ~h", "law y: j, i -> ~a")
        b = bench(t, "abcdefghij", *["ab", "id", "jf"] * 2 + ["hj", "ha"])
        self.assertEqual(clashing(t, *b), [0, 1, 769])

    def test_the_cases_own_weights_are_not_looked_at(self):
        t = lines(*rules(*"abc"), "law x: a, b -> ~c", "weigh a > c", "weigh b > c")
        self.assertEqual(clashing(t, *bench(t, "abc", "a", "b", "c")), [0, 1, 7])


if __name__ == "__main__":
    unittest.main()
