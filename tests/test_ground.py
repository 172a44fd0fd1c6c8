"""Call 3: ground; and what strikes and defends."""

import unittest

from helper import grounds, lines, made, rules

# a and b clash, and neither has to do with c.
PAIR = lines("rule a: => p", "rule b: => ~p", "rule c: => q")
# The least clash is all four.
FOUR = lines("rule a: => p", "rule b: => q", "rule c: p, q => r", "rule d: => ~r")


def chain(names):
    """Rules of which each clashes with the next one, by laws."""
    links = ["law l%s: %s -> ~%s" % (x, x, y) for x, y in zip(names, names[1:])]
    return lines(*rules(*names), *links)


def falling(t, names):
    """A judge's rows by which each of the names outweighs all behind it."""
    order = sorted(names)
    weights = [(0, order.index(x), order.index(y)) for x, y in zip(names, names[1:])]
    return made(1, t, *weights)[1:]


def numbered(t_names, chosen):
    return sum(1 << sorted(t_names).index(name) for name in chosen)


class WithoutClashes(unittest.TestCase):
    def test_all_rules(self):
        t = lines(*rules("a", "b", "c"))
        self.assertEqual(grounds(t, 0, 0, 0), [0, 7])
        self.assertEqual(grounds(t, 6, 4, 0), [0, 7])

    def test_rules_whose_bodies_do_not_hold(self):
        self.assertEqual(grounds(lines("rule a: p => q", "rule b: ~p => ~q"), 0, 0), [0, 3])

    def test_one_to_eight_judges(self):
        t = lines("rule a: => p")
        for judges in range(1, 9):
            self.assertEqual(grounds(t, *[0] * judges), [0] + [1] * judges)

    def test_ten_rules(self):
        t = lines(*rules(*"abcdefghij"))
        self.assertEqual(grounds(t, *[0] * 10), [0, 1023])
        self.assertEqual(grounds(t, *[0] * 80), [0] + [1023] * 8)


class TwoThatClash(unittest.TestCase):
    def test_neither_outweighs_the_other(self):
        self.assertEqual(grounds(PAIR, 0, 0, 0), [0, 4])
        self.assertEqual(grounds(PAIR, 4, 0, 0), [0, 4])
        self.assertEqual(grounds(PAIR, 0, 0, 3), [0, 4])

    def test_one_outweighs_the_other(self):
        self.assertEqual(grounds(PAIR, 2, 0, 0), [0, 5])
        self.assertEqual(grounds(PAIR, 0, 1, 0), [0, 6])

    def test_by_going_on(self):
        self.assertEqual(grounds(PAIR, 6, 0, 2), [0, 5])

    def test_judges_who_weigh_them_differently(self):
        self.assertEqual(grounds(PAIR, 2, 0, 0, 0, 1, 0, 0, 0, 0), [0, 5, 6, 4])
        self.assertEqual(grounds(PAIR, *[0, 0, 0, 2, 0, 0, 0, 1, 0, 0, 0, 0] * 2), [0] + [4, 5, 6, 4] * 2)

    def test_the_cases_own_weights_are_not_looked_at(self):
        for weight in ("weigh a > b", "weigh b > a"):
            t = PAIR + lines(weight)
            self.assertEqual(grounds(t, 0, 0, 0, 2, 0, 0, 0, 1, 0), [0, 4, 5, 6])

    def test_rules_are_numbered_by_name(self):
        t = lines("rule b: => p", "rule c: => ~p", "rule a: => q")
        self.assertEqual(grounds(t, 0, 4, 0), [0, 3])
        self.assertEqual(grounds(t, 0, 0, 2), [0, 5])

    def test_a_name_against_an_opposite(self):
        t = lines("rule a: => ~b", "rule b: => p")
        self.assertEqual(grounds(t, 0, 0, 2, 0, 0, 1), [0, 0, 1, 2])

    def test_a_head_that_a_body_needs(self):
        # b says nothing without a, so a and b clash with c, and a with c doesn't.
        t = lines("rule a: => p", "rule b: p => q", "rule c: => ~q")
        self.assertEqual(grounds(t, 0, 0, 0), [0, 0])
        self.assertEqual(grounds(t, 4, 0, 0), [0, 1])
        self.assertEqual(grounds(t, 4, 4, 0), [0, 3])


class ClashesOfMany(unittest.TestCase):
    def test_three(self):
        t = lines("rule a: => p", "rule b: => q", "rule c: => r", "law x: p, q -> ~r")
        self.assertEqual(grounds(t, 0, 0, 0), [0, 0])
        self.assertEqual(grounds(t, 2, 0, 0), [0, 1])
        # c is outweighed by both, so a and b stand and strike it.
        self.assertEqual(grounds(t, 4, 4, 0), [0, 3])
        # One of a set that strikes c is enough for c to outweigh.
        self.assertEqual(grounds(t, 0, 0, 1), [0, 4])
        self.assertEqual(grounds(t, 0, 1, 1), [0, 6])

    def test_four(self):
        self.assertEqual(grounds(FOUR, 0, 0, 0, 0), [0, 0])
        self.assertEqual(grounds(FOUR, 8, 0, 0, 0), [0, 1])
        self.assertEqual(grounds(FOUR, 8, 8, 0, 0), [0, 3])
        self.assertEqual(grounds(FOUR, 8, 8, 8, 0), [0, 7])
        self.assertEqual(grounds(FOUR, 0, 1, 1, 1), [0, 14])
        self.assertEqual(grounds(FOUR, 0, 0, 0, 4), [0, 8])

    def test_ten(self):
        names = "abcdefghij"
        t = lines(*rules(*names), "law x: a, b, c, d, e -> k", "law y: k, f, g, h, i -> ~j")
        self.assertEqual(grounds(t, *[0] * 10), [0, 0])
        self.assertEqual(grounds(t, *[512] * 9, 0), [0, 511])
        self.assertEqual(grounds(t, *[512] * 8, 0, 0), [0, 255])

    def test_a_greater_clash_is_no_reason_beside_a_lesser(self):
        # a and b clash already, so a, b and c are no least clash.
        t = lines("rule a: => p", "rule b: => ~p", "rule c: => q", "law x: a, b -> ~q")
        self.assertEqual(grounds(t, 0, 0, 0), [0, 4])


class ByItself(unittest.TestCase):
    def test_the_empty_set_strikes_it(self):
        for own in ("rule a: => ~a", "rule a: a => ~a"):
            t = lines(own, "rule b: => q")
            self.assertEqual(grounds(t, 0, 0), [0, 2])
            self.assertEqual(grounds(t, 2, 0), [0, 2])

    def test_it_strikes_nothing(self):
        t = lines("rule a: => ~a", "rule b: a => q", "law x: a -> ~b")
        self.assertEqual(grounds(t, 0, 0, 2, 0, 0, 1), [0, 2, 2, 2])

    def test_by_laws(self):
        self.assertEqual(grounds(lines("law x: -> ~a", "rule a: => p", "rule b: => p-b"), 0, 0), [0, 2])
        self.assertEqual(grounds(lines("law x: -> ~p", "rule a: => p", "rule b: p => q"), 0, 0), [0, 2])
        self.assertEqual(grounds(lines("law x: p -> ~p", "rule a: => p"), 0), [0, 0])

    def test_all_of_them(self):
        t = lines(*["rule %s: => ~%s" % (name, name) for name in "abc"])
        self.assertEqual(grounds(t, 6, 4, 0), [0, 0])


class Defended(unittest.TestCase):
    def test_by_another_one_of_the_ground(self):
        # a strikes b and isn't struck; so c, which b strikes, is defended.
        t = chain("abc")
        self.assertEqual(grounds(t, 2, 0, 0), [0, 5])
        self.assertEqual(grounds(t, 0, 0, 0), [0, 0])
        self.assertEqual(grounds(t, 6, 4, 0), [0, 5])
        self.assertEqual(grounds(t, 0, 5, 0), [0, 2])

    def test_in_several_turns(self):
        for names in ("abcdefghij", "jihgfedcba", "fbjahcgdie"):
            t = chain(names)
            self.assertEqual(grounds(t, *falling(t, names)), [0, numbered(names, names[::2])])

    def test_what_it_strikes_itself_it_does_not_defend_for_itself(self):
        # c strikes d, but that's of no use ahead of c being in the ground.
        t = chain("abcd")
        self.assertEqual(grounds(t, 2, 0, 0, 0), [0, 1])
        self.assertEqual(grounds(t, 2, 0, 8, 0), [0, 5])

    def test_one_of_the_set_that_strikes_is_enough(self):
        # c is struck by b and d together; a strikes b alone.
        t = lines("rule a: => p", "rule b: => ~p", "rule c: => q", "rule d: => r", "law x: b, d -> ~q")
        self.assertEqual(grounds(t, 2, 0, 0, 0), [0, 13])
        self.assertEqual(grounds(t, 0, 0, 0, 0), [0, 0])

    def test_each_set_that_strikes_must_be_struck(self):
        # c is struck by b and by d; a strikes b alone.
        t = lines("rule a: => p", "rule b: => ~p", "rule c: => q", "rule d: => ~q", "law x: b -> ~c")
        self.assertEqual(grounds(t, 2, 0, 0, 0), [0, 1])
        self.assertEqual(grounds(t, 2, 0, 8, 0), [0, 5])

    def test_several_of_the_ground_strike_together(self):
        t = lines("rule a: => p", "rule b: => q", "rule c: => r", "rule d: => s", "law x: a, b -> ~c", "law y: c -> ~d")
        self.assertEqual(grounds(t, 4, 4, 0, 0), [0, 11])
        self.assertEqual(grounds(t, 4, 0, 0, 0), [0, 1])


class Circles(unittest.TestCase):
    def test_four_in_a_circle(self):
        t = lines(*rules(*"abcd"), "law w: a -> ~b", "law x: b -> ~c", "law y: c -> ~d", "law z: d -> ~a")
        self.assertEqual(grounds(t, 0, 0, 0, 0), [0, 0])
        self.assertEqual(grounds(t, 10, 0, 0, 0), [0, 5])
        self.assertEqual(grounds(t, 2, 0, 0, 0), [0, 0])
        self.assertEqual(grounds(t, 0, 0, 2, 0, 0, 5, 0, 0), [0, 0, 10])

    def test_three_of_whom_each_clashes_with_each(self):
        t = lines(*rules(*"abc"), "law x: a -> ~b", "law y: b -> ~c", "law z: c -> ~a")
        self.assertEqual(grounds(t, 0, 0, 0), [0, 0])
        self.assertEqual(grounds(t, 2, 0, 0), [0, 0])
        self.assertEqual(grounds(t, 6, 0, 0), [0, 1])
        self.assertEqual(grounds(t, 0, 4, 0, 6, 4, 0), [0, 0, 1])

    def test_a_circle_beside_a_rule_that_stands(self):
        t = lines(*rules(*"abcd"), "law x: a -> ~b", "law y: b -> ~c", "law z: c -> ~a")
        self.assertEqual(grounds(t, 0, 0, 0, 0), [0, 8])


class ByLaws(unittest.TestCase):
    def test_a_clash_that_comes_about_by_laws(self):
        t = lines("rule a: => p", "rule b: => q", "law x: p, q -> r", "law y: p, q -> ~r")
        self.assertEqual(grounds(t, 0, 0, 2, 0, 0, 1), [0, 0, 1, 2])

    def test_in_many_steps(self):
        steps = ["law l%02d: p%d -> p%d" % (n, n, n + 1) for n in range(50)][::-1]
        t = lines("rule a: => p0", "rule b: => ~p50", *steps)
        self.assertEqual(grounds(t, 0, 0, 2, 0, 0, 1), [0, 0, 1, 2])
        self.assertEqual(grounds(lines("rule a: => p0", "rule b: => ~p50", *steps[1:]), 0, 0), [0, 3])

    def test_laws_are_not_turned_round(self):
        # From ~q nothing follows about p.
        t = lines("rule a: => p", "law x: p -> q", "rule b: => ~q", "rule c: => ~p")
        self.assertEqual(grounds(t, 0, 0, 0, 6, 0, 0, 0, 1, 1), [0, 0, 1, 6])
        self.assertEqual(grounds(t, 0, 1, 0), [0, 6])


if __name__ == "__main__":
    unittest.main()
