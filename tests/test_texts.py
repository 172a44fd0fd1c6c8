"""The chapter "Cases": texts, their faults, numbers, what follows and what clashes."""

import unittest

from helper import judged, lines, made, rules
from judgebench.cases import clashes, what_follows
from judgebench.reading import read_case

ONE_RULE = lines("rule zz: => zz-p")


class TextCase(unittest.TestCase):
    def good(self, *rows):
        """The rows, with a rule ahead so that there is one for certain, are a case's text."""
        t = ONE_RULE + lines(*rows)
        self.assertEqual(made(1, t)[0], 0, rows)
        self.assertNotEqual(judged(t), [-6], rows)
        return read_case(t).case

    def wrong(self, kind, *rows):
        """The fault is of this kind and in the last row."""
        t = ONE_RULE + lines(*rows)
        place = len(ONE_RULE + lines(*rows[:-1]))
        reading = read_case(t)
        self.assertEqual((reading.kind, reading.place), (kind, place), rows)
        self.assertEqual(made(1, t), [-6], rows)
        self.assertEqual(judged(t, 0), [-6], rows)
        # The rows ahead of it are in order, and what stands behind changes nothing.
        self.good(*rows[:-1])
        reading = read_case(t + lines("nonsense"))
        self.assertEqual((reading.kind, reading.place), (kind, place), rows)


class Lines(TextCase):
    def test_ordinary_lines(self):
        self.good("law a: p, q -> r")
        self.good("law a: p -> ~q")
        self.good("law a: -> p")
        self.good("rule a: p, ~q => r")
        self.good("rule a: => ~p")
        self.good("rule a: => p", "weigh a > zz")

    def test_the_empty_text_is_the_empty_case(self):
        self.assertEqual(made(1, []), [-1])
        self.assertEqual(judged([]), [-2, 1, 0, 0])
        self.assertEqual(read_case([]).kind, 0)

    def test_words_may_be_names(self):
        self.good("rule rule: law, weigh => rule", "law law: law -> weigh", "rule weigh: => law", "weigh rule > weigh")

    def test_no_such_lines(self):
        for row in (
            "", " ", "law", "law ", "rule a", "law a:", "law a: ->", "rule a: =>", "law a: p", "law a: p ->",
            "law a: -> p q", "law a: -> p, q", "law a: -> p -> q", "laws a: -> p", "Law a: -> p", "LAW a: -> p",
            "lawa: -> p", "law -> p", "law : -> p", "law a -> p", "law a:: -> p", "law a :  -> p", "law a : -> p",
            "law a:-> p", "law a: ->p", "law a:p -> q", "a: -> p", "# a remark", "rule", "weigh",
        ):
            self.wrong(1, row)

    def test_arrows(self):
        for row in ("law a: => p", "rule a: -> p", "law a: > p", "law a: - > p", "rule a: = > p", "law a: p q",
                    "rule a: >= p", "rule a: ==> p", "law a: --> p", "law a: <- p"):
            self.wrong(1, row)

    def test_blanks(self):
        for row in ("law a: p, q -> r", "rule a: p, ~q => ~r", "law a: -> p", "rule a: => p", "weigh zz > zy"):
            ahead = ["rule zy: => zy-p"]
            self.good(*ahead, row)
            self.wrong(1, *ahead, " " + row)
            self.wrong(1, *ahead, row + " ")
            self.wrong(1, *ahead, row.replace(" ", "\t"))
            for place, sign in enumerate(row):
                if sign == " ":
                    self.wrong(1, *ahead, row[:place] + " " + row[place:])
                    self.wrong(1, *ahead, row[:place] + row[place + 1:])

    def test_commas(self):
        for row in ("law a: p q -> r", "law a: p,q -> r", "law a: p , q -> r", "law a: p, q, -> r", "law a: , p -> r",
                    "law a: p,, q -> r", "law a: p, , q -> r", "law a: , -> r", "law a: p, -> r", "law a:, p -> r",
                    "law a: -> r,", "law a, -> r", "law a: pp qq -> r", "rule a: ~pp qq => r", "law a: p: q -> r",
                    "law a: pp, qq rr -> r", "law a: p~ q -> r"):
            self.wrong(1, row)

    def test_opposites(self):
        for row in ("law a: ~~p -> q", "law a: ~ p -> q", "law a: ~ -> q", "law a: -> ~", "law a: -> ~~q",
                    "law a: -> p~", "law ~a: -> p", "rule ~a: => p", "weigh ~zz > zy", "weigh zz > ~zy",
                    "law a: -> -p", "law a: !p -> q"):
            self.wrong(1, "rule zy: => zy-p", row)

    def test_weights(self):
        for row in ("weigh", "weigh zz", "weigh zz >", "weigh zz > ", "weigh > zz", "weigh zz zy", "weigh zz < zy",
                    "weigh zz: > zy", "weigh zz > zy > zz", "weigh zz > zy zz", "weigh zz >zy", "weigh zz> zy",
                    "weigh zz>zy", "weigh zz => zy", "weigh zz >> zy", "weigh zz, zy > zz", "weight zz > zy",
                    "weigh zz > zy,"):
            self.wrong(1, "rule zy: => zy-p", row)

    def test_each_byte_that_is_no_sign_of_a_line(self):
        good = [ord(sign) for sign in "abcdefghijklmnopqrstuvwxyz0123456789-"]
        for byte in range(256):
            t = lines("rule a: => p") + [byte]
            self.assertEqual(made(1, t), [-6])
            t = [ord(sign) for sign in "rule a: => p"] + [byte, 10]
            if byte in good or byte == 10:
                continue
            self.assertEqual(made(1, t), [-6], byte)
            self.assertEqual(read_case(t).kind, 1)

    def test_line_ends(self):
        row = [ord(sign) for sign in "rule a: => p"]
        self.assertEqual(made(1, row + [10]), [0, 0])
        for end in ([13, 10], [10, 13], [13], [0], [11], [12], [28], [133], [10, 10], [32, 10], [10, 32], []):
            self.assertEqual(made(1, row + end), [-6], end)
        self.assertEqual(made(1, [10] + row + [10]), [-6])

    def test_a_text_that_ends_within_a_line(self):
        t = lines("rule a: => p", "law b: -> q", "weigh a > a")
        whole = lines("rule a: => p", "law b: -> q")
        for end in range(len(whole)):
            reading = read_case(whole[:end])
            if end in (0, 13):
                self.assertEqual(reading.kind, 0)
            else:
                self.assertEqual((reading.kind, reading.place), (1, end))
                self.assertEqual(made(1, whole[:end]), [-6])
        # An earlier line's fault goes ahead of it.
        reading = read_case(t + [ord("x")])
        self.assertEqual((reading.kind, reading.place), (6, len(whole)))


class Names(TextCase):
    def test_fifteen_bytes_and_sixteen(self):
        for form in ("rule {0}: => p", "law {0}: -> p", "law a: {0} -> p", "law a: q, {0} -> p", "law a: {0}, q -> p",
                     "rule a: ~{0} => p", "law a: -> {0}", "law a: -> ~{0}", "rule a: => ~{0}"):
            self.good(form.format("n" * 15))
            self.wrong(1, form.format("n" * 16))
            self.good(form.format("n"))

    def test_fifteen_bytes_and_sixteen_in_a_weight(self):
        ahead = ["rule %s: => p" % ("n" * 15), "rule a: => q"]
        self.good(*ahead, "weigh %s > a" % ("n" * 15))
        self.good(*ahead, "weigh a > %s" % ("n" * 15))
        self.wrong(1, *ahead, "weigh %s > a" % ("n" * 16))
        self.wrong(1, *ahead, "weigh a > %s" % ("n" * 16))

    def test_which_signs(self):
        for name in ("a", "z", "a0", "z9", "a-", "a-b", "a--", "abcdefghijklm", "nopqrstuvwxyz", "a0123456789"):
            self.good("rule %s: => p" % name, "law x: -> ~%s" % name)
        for name in ("0", "0a", "9a", "-", "-a", "A", "aB", "a_b", "a.b", "a`", "a{", "a/", "a'", "a:", "a+", "a,b"):
            self.wrong(1, "rule %s: => p" % name)
            self.wrong(1, "law x: -> %s" % name)


class Bodies(TextCase):
    def test_six_literals_and_seven(self):
        for form in ("law a: %s -> h", "rule a: %s => h"):
            for length in range(1, 7):
                self.good(form % ", ".join("p%d" % n for n in range(length)))
            self.wrong(1, form % ", ".join("p%d" % n for n in range(7)))
            self.wrong(1, form % ", ".join("p%d" % n for n in range(12)))

    def test_a_literal_twice(self):
        for form in ("law a: %s -> h", "rule a: %s => h"):
            self.wrong(3, form % "p, p")
            self.wrong(3, form % "~p, q, ~p")
            self.wrong(3, form % "q1, q2, q3, q4, p, p")
            self.good(form % "p, ~p")

    def test_the_head_may_stand_in_the_body(self):
        self.good("law a: p -> p", "rule b: ~p => ~p", "law c: p -> ~p")


class Again(TextCase):
    def test_a_name_again(self):
        self.wrong(2, "law a: -> p", "law a: -> q")
        self.wrong(2, "rule a: => p", "rule a: => q")
        self.wrong(2, "law a: -> p", "rule a: => q")
        self.wrong(2, "rule a: => p", "law a: -> q")
        self.wrong(2, "law a: -> p", "law b: -> q", "law a: -> r")

    def test_the_same_again(self):
        self.wrong(3, "law a: -> p", "law b: -> p")
        self.wrong(3, "rule a: => p", "rule b: => p")
        self.wrong(3, "law a: p, ~q -> r", "law c: p -> r", "law b: p, ~q -> r")
        self.wrong(3, "rule a: p, ~q => r", "rule c: p => r", "rule b: p, ~q => r")

    def test_a_law_like_a_rule_is_no_fault(self):
        self.good("law a: p -> q", "rule b: p => q")
        self.good("rule b: p => q", "law a: p -> q")

    def test_another_row_or_head_is_no_fault(self):
        self.good("law a: p, q -> r", "law b: q, p -> r", "law c: p, q -> ~r", "law d: p -> r", "law e: ~p, q -> r")
        self.good("rule a: p, q => r", "rule b: q, p => r", "rule c: p, q => ~r", "rule d: p => r")

    def test_reasons_in_order(self):
        self.wrong(1, "law a: -> p", "law a: -> p ")
        self.wrong(2, "law a: -> p", "law a: -> p")
        self.wrong(2, "law a: -> p", "law a: q, q -> p")
        self.wrong(3, "law a: -> p", "law b: p, p -> ~p")


class TooMany(TextCase):
    def test_laws(self):
        rows = ["law a%d: p%d -> p%d" % (n, n // 8, n % 8 + 8) for n in range(64)]
        self.good(*rows)
        self.wrong(4, *rows, "law b: -> p0")
        self.wrong(3, *rows, rows[5].replace("a5", "b"))
        self.good(*rows, "rule b: => p0")

    def test_rules(self):
        rows = rules(*"abcdefghi")
        self.good(*rows)
        self.wrong(4, *rows, "rule j: => q")
        self.wrong(2, *rows, "rule a: => q")
        self.good(*rows, "law j: -> q")

    def test_atoms_of_laws(self):
        # The rule ahead has two atoms.
        rows = ["law a%d: -> p%d" % (n, n) for n in range(62)]
        self.good(*rows)
        self.wrong(4, *rows, "law b: -> p62")
        self.wrong(4, *rows, "law b: -> ~p62")
        self.wrong(4, *rows, "law b: p62 -> p0")
        self.wrong(4, *rows, "law b: p0, ~p62 -> p0")
        self.good(*rows, "law p62: p0, ~p1 -> p2")

    def test_atoms_of_rules(self):
        rows = ["law a%d: -> p%d" % (n, n) for n in range(61)]
        self.good(*rows, "rule b: => p0")
        self.good(*rows, "rule p0: => b")
        self.wrong(4, *rows, "rule b: => c")
        self.wrong(4, *rows, "rule b: c => p0")
        self.wrong(4, *rows, "rule b: p1, ~c => p0")
        self.wrong(4, *rows, "rule b: => p0", "rule c: => p1")
        self.good(*rows, "rule b: => b", "rule p0: => ~b")

    def test_a_rules_name_is_one_atom_with_the_literals(self):
        rows = ["law a%d: -> p%d" % (n, n) for n in range(62)]
        self.good(*rows, "rule p7: => ~p8", "rule p9: p7, ~p9 => p8")

    def test_atoms_in_one_line(self):
        rows = ["law a%d: -> p%d" % (n, n) for n in range(55)]
        self.good(*rows, "law b: q1, q2, q3, q4, q5, q6 -> q7")
        self.good(*rows, "law b: q1, q2, q3, q4, q5, q6 -> ~q1", "law c: -> q7")
        self.wrong(4, *rows, "law b: q1, q2, q3, q4, q5, q6 -> q7", "law c: -> q8")
        self.wrong(4, *rows, "rule b: q1, q2, q3, q4, q5, q6 => q7")

    def test_a_weight_has_no_atoms(self):
        rows = ["law a%d: -> p%d" % (n, n) for n in range(60)] + ["rule b: => c"]
        self.good(*rows, "weigh b > zz")

    def test_ahead_of_a_clash(self):
        rows = ["law a%d: p%d -> p%d" % (n, n // 8, n % 8 + 8) for n in range(63)] + ["law b: -> p0"]
        self.wrong(4, *rows, "law c: -> ~p0")


class Weights(TextCase):
    def test_of_no_rule(self):
        self.wrong(5, "weigh zz > a")
        self.wrong(5, "weigh a > zz")
        self.wrong(5, "weigh a > a")
        self.wrong(5, "law a: -> p", "weigh a > zz")
        self.wrong(5, "rule a: p => q", "weigh zz > p")
        reading = read_case(lines("rule a: => p", "weigh a > b", "rule b: => q"))
        self.assertEqual((reading.kind, reading.place), (5, 13))

    def test_told_again_or_following_already(self):
        rows = rules("a", "b", "c") + ["weigh a > b", "weigh b > c"]
        self.good(*rows, "weigh a > b")
        self.good(*rows, "weigh a > c", "weigh a > c", "weigh b > c", "weigh zz > a")

    def test_a_rule_over_itself(self):
        self.wrong(6, "weigh zz > zz")
        self.wrong(6, "rule a: => p", "weigh a > zz", "weigh zz > a")
        self.wrong(6, *rules("a", "b"), "weigh a > b", "weigh b > zz", "weigh zz > a")
        self.wrong(6, *rules("a", "b"), "weigh b > zz", "weigh a > b", "weigh zz > a")

    def test_over_itself_in_many_steps(self):
        names = "hdaifbgce"
        chain = ["weigh %s > %s" % pair for pair in zip(names, names[1:])]
        for told in (chain, chain[::-1], chain[::2] + chain[1::2]):
            self.good(*rules(*names), *told, "weigh h > e", "weigh zz > h")
            for later in range(1, 9):
                for sooner in range(later):
                    self.wrong(6, *rules(*names), *told, "weigh %s > %s" % (names[later], names[sooner]))

    def test_weights_between_rules(self):
        self.good("rule m: => p", "weigh m > zz", "rule a: => q", "weigh a > m", "rule b: => r", "weigh a > b")
        self.wrong(6, "rule m: => p", "weigh m > zz", "rule a: => q", "weigh a > m", "rule b: => r", "weigh zz > a")


class Clashes(TextCase):
    def test_laws_alone(self):
        self.wrong(7, "law a: -> p", "law b: -> ~p")
        self.wrong(7, "law a: -> ~p", "law b: -> p")
        self.wrong(7, "law a: -> p", "law b: p -> ~p")
        self.wrong(7, "law b: p -> ~p", "law a: -> p")
        self.wrong(7, "law a: p, q -> ~r", "law b: -> r", "law c: -> p", "law d: -> q")

    def test_in_many_steps(self):
        for order in (1, -1):
            rows = ["law a%d: p%d -> p%d" % (n, n, n + 1) for n in range(60)][::order]
            self.good(*rows, "law b: p60 -> ~p0")
            self.good(*rows, "law b: -> p1", "law c: p60 -> ~p0")
            self.wrong(7, *rows, "law b: p60 -> ~p0", "law c: -> p0")
            self.wrong(7, *rows, "law c: -> p0", "law b: p60 -> ~p0")

    def test_rules_are_left_aside(self):
        self.good("rule a: => p", "rule b: => ~p", "law c: -> p", "rule d: => ~a")
        self.good("rule a: => p", "law c: -> ~a", "law d: a -> p", "law e: -> ~p", "law f: -> ~b", "rule b: => q")

    def test_an_opposite_is_nothing_but_its_atoms_opposite(self):
        self.good("law a: -> p", "law b: -> ~q", "law c: ~p -> q", "law d: q -> ~p", "law e: p, q -> ~p")

    def test_atoms_side_by_side_do_not_clash(self):
        # Numbers 2n + 1 and 2n + 2 stand beside one another and are of two atoms.
        self.good("law a: -> ~p", "law b: -> q", "law c: -> ~r", "law d: -> s")


class Numbers(unittest.TestCase):
    def test_order_of_atoms(self):
        t = lines("rule m: ~b => a", "law z: -> a-", "law y: a0, aa -> ~ab")
        self.assertEqual(read_case(t).case.atoms, ["a", "a-", "a0", "aa", "ab", "b", "m"])

    def test_laws_and_rules_in_their_names_order(self):
        t = lines("rule b: => p", "rule a: p, ~q => ~q", "law z: -> p", "law y: ~p -> q")
        case = read_case(t).case
        # Atoms a, b, p, q; literals a 0, b 2, p 4, ~p 5, q 6, ~q 7.
        self.assertEqual(case.laws, [(1 << 5, 1 << 6), (0, 1 << 4)])
        self.assertEqual(case.rules, [(1 << 0, 1 << 4 | 1 << 7, 1 << 7), (1 << 2, 0, 1 << 4)])

    def follow(self, chosen, *rows):
        case = read_case(lines(*rows)).case
        found = what_follows(case, chosen)
        return ["~" * (n % 2) + case.atoms[n // 2] for n in range(2 * len(case.atoms)) if found >> n & 1]

    def test_what_follows(self):
        rows = ("rule b: p => q", "rule a: => p", "law c: q, a -> ~r", "law d: -> s", "rule e: ~r => t")
        self.assertEqual(self.follow(0, *rows), ["s"])
        self.assertEqual(self.follow(1, *rows), ["a", "p", "s"])
        self.assertEqual(self.follow(2, *rows), ["b", "s"])
        self.assertEqual(self.follow(3, *rows), ["a", "b", "p", "q", "~r", "s"])
        self.assertEqual(self.follow(7, *rows), ["a", "b", "e", "p", "q", "~r", "s", "t"])

    def test_which_sets_clash(self):
        case = read_case(lines("rule a: => p", "rule b: a => ~p", "rule c: => ~b")).case
        self.assertEqual([chosen for chosen in range(8) if clashes(case, chosen)], [3, 6, 7])


class Length(unittest.TestCase):
    def text(self, length):
        """A case's text of so many bytes, two rules and one weight, told again and again."""
        weight = lines("weigh a > bb")
        # A law's name makes up for what is not a whole weight.
        for size in range(1, 14):
            rows = lines("rule a: => p", "rule bb: => q", "law %s: -> p" % ("x" * size))
            if (length - len(rows)) % len(weight) == 0:
                break
        t = rows + weight * ((length - len(rows)) // len(weight))
        self.assertEqual(len(t), length)
        return t

    def test_8192_bytes_and_more(self):
        self.assertEqual(made(1, self.text(8191), (0, 1, 0)), [0, 0, 1])
        self.assertEqual(made(1, self.text(8192), (0, 1, 0)), [0, 0, 1])
        self.assertEqual(judged(self.text(8192), 0, 1), [0])
        for length in (8193, 8194, 8300):
            self.assertEqual(made(1, self.text(length)), [-1])
            self.assertEqual(judged(self.text(length), 0, 1), [-1])

    def test_a_fault_behind_the_8192nd_byte(self):
        t = self.text(8192)
        self.assertEqual(made(1, t[:-1] + [32]), [-6])
        self.assertEqual(made(1, t + [32]), [-1])
        self.assertEqual(judged(t[:-1] + [32], 0, 0), [-6])
        self.assertEqual(judged(t + [32], 0, 0), [-1])

    def test_8192_line_feeds(self):
        self.assertEqual(made(1, [10] * 8192), [-6])
        self.assertEqual(made(1, [10] * 8193), [-1])


if __name__ == "__main__":
    unittest.main()
