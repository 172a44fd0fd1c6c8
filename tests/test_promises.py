"""The chapter "The promises": each of its sentences over many benches from a fixed seed, by the calls' own answers."""

import itertools
import random
import unittest

from helper import lines
from judgebench.benches import clash, common, count, few, ground, held, judge, make, part


def within(inner, outer):
    return inner & outer == inner


def all_within(inner, outer):
    return all(within(x, y) for x, y in zip(inner, outer, strict=True))


def some_weights(source, order, j, much):
    """Weights of judge j, as make takes them, which fall in this order of the rules."""
    pairs = [pair for pair in itertools.combinations(order, 2) if source.random() < much]
    return [number for x, y in pairs for number in (j, x, y)]


def swapped(source, order):
    x, y = source.sample(range(len(order)), 2)
    other = list(order)
    other[x], other[y] = order[y], order[x]
    return other


class Drawn:
    """A bench with what the tests ask of it."""

    def __init__(self, source):
        self.names = sorted(source.sample("abcdefghijklmn", source.choice([2, 3, 4, 4, 5, 5, 6, 7, 10])))
        self.rules, self.laws = [], []
        self.draw_rows(source)
        self.t = lines(*self.laws, *self.rules)
        self.size = len(self.names)
        self.judges = source.choice([1, 2, 3, 3, 4, 8])
        # Orders that are near to one another: judges have weights in common and part all the same.
        order = source.sample(range(self.size), self.size)
        near = source.random() < 0.6
        much = source.choice([0.3, 0.8, 1, 1])
        self.weights = []
        for j in range(self.judges):
            own = swapped(source, order) if near else source.sample(order, self.size)
            self.weights += some_weights(source, own, j, much)
        self.b = make(self.judges, self.t, self.weights)[1:]
        self.atoms = next(k for k in range(65) if count(2 * k, self.t, self.b) == [-1])
        self.alone = [held(0, self.t, self.own(j))[2:] for j in range(self.judges)]
        self.shared = {judges: self.common(judges) for judges in self.sets_of_judges()}

    def draw_rows(self, source):
        """Rules that clash by what they say, or by laws alone; a row is kept if the text has no fault with it."""
        atoms = ["p", "q", "r", "s"]
        by_laws = source.random() < 0.5
        for name in self.names:
            row = "rule %s: => p-%s" % (name, name)
            while not by_laws:
                body = source.sample(atoms, source.choice([0, 0, 0, 1, 2]))
                head = source.choice(["", "", "~"]) + source.choice(atoms)
                row = "rule %s:%s => %s" % (name, "".join(" " + word for word in ", ".join(body).split()), head)
                if judge(lines(*self.rules, row), []) != [-6]:
                    break
            self.rules.append(row)
        for k in range(source.choice([1, 2, 4]) if by_laws else source.choice([0, 1, 2])):
            some = source.sample(self.names, min(len(self.names), source.choice([2, 3, 3, 4])))
            row = "law x%d: %s -> ~%s" % (k, ", ".join(some[1:]), some[0])
            if judge(lines(*self.laws, row), []) != [-6]:
                self.laws.append(row)

    def own(self, j):
        """The table of judge j alone."""
        return self.b[j * self.size:(j + 1) * self.size]

    def sets_of_judges(self):
        """All of them, or those of one, of two and of all judges."""
        every = range(1, 1 << self.judges)
        return every if self.judges < 5 else [one for one in every if one.bit_count() in (1, 2, self.judges)]

    def common(self, judges):
        """The weights in common, and the ground by these."""
        answer = common(judges, self.t, self.b)
        return answer[1:-1], answer[-1]

    def standing_in_common(self, judges):
        """The literals that stand by the weights in common."""
        return held(0, self.t, self.shared[judges][0])[2:]


class Promises(unittest.TestCase):
    @classmethod
    def setUpClass(cls):
        source = random.Random(21)
        cls.drawn = [Drawn(source) for turn in range(60)]

    def test_what_is_drawn_has_something_to_tell(self):
        tables = [(one, common((1 << one.judges) - 1, one.t, one.b)) for one in self.drawn if one.judges > 1]
        self.assertGreater(len([one for one, answer in tables if any(answer[1:-1])]), 20)
        self.assertGreater(len([one for one, answer in tables if answer[1:-1] != one.own(0)]), 20)
        self.assertGreater(len([one for one in self.drawn if len(set(ground(one.t, one.b))) > 2]), 15)
        self.assertGreater(len([one for one in self.drawn if held(1, one.t, one.b) != held(2, one.t, one.b)]), 10)
        self.assertTrue([one for one in self.drawn if clash(one.t, one.b)[1] == 1])
        self.assertEqual({judge(one.t, one.b)[0] for one in self.drawn}, {0})

    def test_a_judge_alone_holds_what_the_case_with_those_weights_has_stand(self):
        for one in self.drawn:
            for j in range(one.judges):
                pairs = [(x, y) for x in range(one.size) for y in range(one.size) if one.own(j)[x] >> y & 1]
                weighs = ["weigh %s > %s" % (one.names[x], one.names[y]) for x, y in pairs]
                t = one.t + lines(*weighs)
                chosen = ground(one.t, one.b)[1 + j]
                self.assertEqual(ground(t, one.own(j)), [0, chosen])
                for how in (0, 1, 2):
                    self.assertEqual(held(how, t, one.own(j)), [0, chosen] + one.alone[j])
                # Of many rules it would take long to ask for each literal.
                if one.size < 7:
                    stands = [literal for literal in range(2 * one.atoms)
                              if count(literal, t, one.own(j)) == [0, 1, 0, 0]]
                    self.assertEqual(stands, one.alone[j])

    def test_what_each_judge_of_a_bench_holds_is_what_it_holds_alone(self):
        for one in self.drawn:
            for literal in range(2 * one.atoms):
                stands = len([row for row in one.alone if literal in row])
                falls = len([row for row in one.alone if literal ^ 1 in row])
                self.assertEqual(count(literal, one.t, one.b), [0, stands, falls, one.judges - stands - falls])
            for x, y in itertools.product(range(one.judges), repeat=2):
                apart = sorted(set(one.alone[x]) ^ set(one.alone[y]))
                self.assertEqual(part(x, y, one.t, one.b), [0, apart[0]] if apart else [-3])

    def test_what_all_hold_does_not_clash(self):
        for one in self.drawn:
            answer = held(2, one.t, one.b)
            told = clash(one.t, one.b)
            self.assertFalse(told[1] == 1 and within(told[2], answer[1]))
            self.assertFalse([literal for literal in answer[2:] if literal ^ 1 in answer[2:]])
            rows = [row for row in one.rules if answer[1] >> one.names.index(row[5]) & 1]
            if rows:
                # Rules that don't clash are all in the ground, whatever the weights.
                t = lines(*one.laws, *rows)
                self.assertEqual(ground(t, [0] * len(rows)), [0, (1 << len(rows)) - 1])

    def test_most_never_hold_a_literal_and_its_opposite(self):
        for one in self.drawn:
            literals = held(1, one.t, one.b)[2:]
            self.assertFalse([literal for literal in literals if literal ^ 1 in literals])

    def test_weights_in_common_are_weights(self):
        for one in self.drawn:
            for rows, chosen in one.shared.values():
                self.assertEqual(judge(one.t, rows), [0])
                self.assertEqual(ground(one.t, rows), [0, chosen])

    def test_of_one_judge_its_own(self):
        for one in self.drawn:
            for j in range(one.judges):
                self.assertEqual(one.shared[1 << j], (one.own(j), ground(one.t, one.b)[1 + j]))

    def test_of_more_judges_they_are_fewer_and_the_ground_is_no_greater(self):
        for one in self.drawn:
            for less, more in itertools.product(one.shared, repeat=2):
                if within(less, more):
                    self.assertTrue(all_within(one.shared[more][0], one.shared[less][0]))
                    self.assertTrue(within(one.shared[more][1], one.shared[less][1]))

    def test_with_more_weights_the_ground_is_no_smaller(self):
        source = random.Random(22)
        grown = 0
        for one in self.drawn:
            weights, before = [], 0
            for number in some_weights(source, source.sample(range(one.size), one.size), 0, 1):
                weights.append(number)
                if len(weights) % 3 == 0:
                    now = ground(one.t, make(1, one.t, weights)[1:])[1]
                    self.assertTrue(within(before, now))
                    grown += now != before
                    before = now
        self.assertGreater(grown, 60)

    def test_what_stands_by_the_weights_in_common_stands_for_each(self):
        for one in self.drawn:
            for judges in one.shared:
                stands = one.standing_in_common(judges)
                for j in range(one.judges):
                    if judges >> j & 1:
                        self.assertLessEqual(set(stands), set(one.alone[j]))

    def test_few_tells_one_judge(self):
        for one in self.drawn:
            for literal in range(2 * one.atoms):
                judges = [j for j in range(one.judges) if literal in one.alone[j]]
                self.assertEqual(few(literal, one.t, one.b), [0, 1 << judges[0]] if judges else [-3])

    def test_few_tells_the_least_of_the_sets(self):
        for one in self.drawn:
            told = {judges: one.standing_in_common(judges) for judges in one.shared}
            for literal in range(2 * one.atoms):
                sets = [(judges.bit_count(), judges) for judges in told if literal in told[judges]]
                self.assertEqual(few(literal, one.t, one.b), [0, min(sets)[1]] if sets else [-3])


if __name__ == "__main__":
    unittest.main()
