"""Call 5: held."""

import unittest

from helper import holding, lines, numbers, rules

# a and b clash, and neither has to do with c.
PAIR = lines("rule a: => p", "rule b: => ~p", "rule c: => q")
FOR_A, FOR_B, FOR_NONE = [2, 0, 0], [0, 1, 0], [0, 0, 0]
SOME, MOST, ALL = 0, 1, 2


class HowMany(unittest.TestCase):
    def asked(self, b, *answers):
        """By some, most and all: the names of rules held, and the literals that are no names."""
        for how, (names, literals) in enumerate(answers):
            chosen = sum(1 << "abc".index(name) for name in names)
            self.assertEqual(holding(how, PAIR, *b), [0, chosen] + numbers(PAIR, *names, *literals), how)

    def test_one_judge(self):
        for b, holds in ((FOR_A, ("ac", ["p", "q"])), (FOR_B, ("bc", ["~p", "q"])), (FOR_NONE, ("c", ["q"]))):
            self.asked(b, holds, holds, holds)

    def test_two_judges_of_whom_one_is_just_half(self):
        self.asked(FOR_A + FOR_NONE, ("ac", ["p", "q"]), ("c", ["q"]), ("c", ["q"]))
        self.asked(FOR_A + FOR_B, ("abc", ["p", "~p", "q"]), ("c", ["q"]), ("c", ["q"]))
        self.asked(FOR_A + FOR_A, ("ac", ["p", "q"]), ("ac", ["p", "q"]), ("ac", ["p", "q"]))

    def test_three_judges(self):
        self.asked(FOR_A + FOR_NONE + FOR_A, ("ac", ["p", "q"]), ("ac", ["p", "q"]), ("c", ["q"]))
        self.asked(FOR_A + FOR_NONE + FOR_B, ("abc", ["p", "~p", "q"]), ("c", ["q"]), ("c", ["q"]))
        self.asked(FOR_B + FOR_A + FOR_B, ("abc", ["p", "~p", "q"]), ("bc", ["~p", "q"]), ("c", ["q"]))
        self.asked(FOR_B * 3, *[("bc", ["~p", "q"])] * 3)

    def test_four_judges(self):
        self.asked(FOR_A * 2 + FOR_NONE * 2, ("ac", ["p", "q"]), ("c", ["q"]), ("c", ["q"]))
        self.asked(FOR_A * 3 + FOR_NONE, ("ac", ["p", "q"]), ("ac", ["p", "q"]), ("c", ["q"]))
        self.asked(FOR_A * 4, *[("ac", ["p", "q"])] * 3)

    def test_eight_judges(self):
        self.asked(FOR_A * 4 + FOR_B * 4, ("abc", ["p", "~p", "q"]), ("c", ["q"]), ("c", ["q"]))
        self.asked(FOR_A * 5 + FOR_B * 3, ("abc", ["p", "~p", "q"]), ("ac", ["p", "q"]), ("c", ["q"]))
        self.asked(FOR_NONE + FOR_A * 7, ("ac", ["p", "q"]), ("ac", ["p", "q"]), ("c", ["q"]))

    def test_how_is_0_1_or_2(self):
        for how in (0, 1, 2):
            self.assertEqual(holding(how, PAIR, *FOR_NONE)[0], 0)
        for how in (3, 4, 255, 4294967295):
            self.assertEqual(holding(how, PAIR, *FOR_NONE), [-1])


class EachByItself(unittest.TestCase):
    def test_a_literal_that_follows_from_other_rules_for_each(self):
        # Judge 0 holds a, judge 1 holds b, judge 2 neither.
        t = lines("rule a: => ~b", "rule b: => ~a", "law x: a -> p", "law y: b -> p")
        b = [2, 0, 0, 1, 0, 0]
        self.assertEqual(holding(SOME, t, *b), [0, 3] + numbers(t, "a", "~a", "b", "~b", "p"))
        self.assertEqual(holding(MOST, t, *b), [0, 0] + numbers(t, "p"))
        self.assertEqual(holding(ALL, t, *b), [0, 0])
        self.assertEqual(holding(ALL, t, *b[:4]), [0, 0] + numbers(t, "p"))

    def test_rules_that_most_hold_but_not_together(self):
        # Each two judges hold one of the rules, and p follows from all three alone.
        t = lines(*rules(*"abc"), "law x: a, b -> ~c", "law y: p-a, p-b, p-c -> p")
        b = [4, 4, 0, 0, 1, 1, 2, 0, 2]
        names = ["a", "b", "c", "p-a", "p-b", "p-c"]
        self.assertEqual(holding(MOST, t, *b), [0, 7] + numbers(t, *names))
        self.assertEqual(holding(SOME, t, *b), [0, 7] + numbers(t, *names, "~c"))
        self.assertEqual(holding(ALL, t, *b), [0, 0])


class Literals(unittest.TestCase):
    def test_rising(self):
        t = lines("rule z: => a9", "rule m: => ~a10", "rule b: a9, ~a10 => ~a2", "law x: -> ~zz", "law w: z -> a")
        # Atoms a, a10, a2, a9, b, m, z, zz.
        self.assertEqual(holding(ALL, t, 0, 0, 0), [0, 7, 0, 3, 5, 6, 8, 10, 12, 15])

    def test_what_laws_say_is_held_without_rules(self):
        t = lines("rule a: => p", "rule b: => ~p", "law x: -> q", "law y: q -> ~r")
        for how in (SOME, MOST, ALL):
            self.assertEqual(holding(how, t, *[0] * 6), [0, 0] + numbers(t, "q", "~r"))

    def test_nothing_at_all(self):
        t = lines("rule a: => p", "rule b: => ~p")
        for how in (SOME, MOST, ALL):
            for judges in (1, 2, 8):
                self.assertEqual(holding(how, t, *[0] * 2 * judges), [0, 0])

    def test_ten_rules_and_eight_judges(self):
        t = lines(*rules(*"abcdefghij"))
        for how in (SOME, MOST, ALL):
            self.assertEqual(holding(how, t, *[0] * 80), [0, 1023] + list(range(0, 40, 2)))

    def test_64_atoms(self):
        t = lines("rule a: => p", *["law b%d: -> ~q%02d" % (n, n) for n in range(62)])
        self.assertEqual(holding(MOST, t, 0), [0, 1, 0, 2] + list(range(5, 128, 2)))

    def test_the_cases_own_weights_are_not_looked_at(self):
        t = PAIR + lines("weigh a > b")
        self.assertEqual(holding(SOME, t, *FOR_NONE), [0, 4] + numbers(t, "c", "q"))
        self.assertEqual(holding(SOME, t, *FOR_B), [0, 6] + numbers(t, "b", "c", "~p", "q"))


if __name__ == "__main__":
    unittest.main()
