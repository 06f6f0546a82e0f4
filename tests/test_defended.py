"""defended: the rules of a set on that a set defends."""

import unittest

from texts import defended, lines, set_of

# b strikes a, c strikes b, d strikes c, each by its weight alone; e is left alone.
ROW = lines("rule a: => p", "rule b: => q", "rule c: => r", "rule d: => s", "rule e: => e",
            "law ab: p -> ~q", "law bc: q -> ~r", "law cd: r -> ~s",
            "weigh d > c", "weigh c > b", "weigh b > a")
ALL = "a b c d e"

# It takes b and c together to strike a; d clashes with c, and outweighs it.
JOINT = lines("rule a: => p", "rule b: => q", "rule c: => r", "rule d: => ~r", "law l: q, r -> ~p",
              "weigh b > a", "weigh c > a", "weigh d > c")


class Defended(unittest.TestCase):
    def told(self, text, on, names, expected):
        answer = defended(set_of(on, text), set_of(names, text), text)
        self.assertEqual(answer, [0, set_of(expected, text)], (on, names))

    def test_a_rule_that_nothing_strikes(self):
        self.told(ROW, ALL, "", "d e")
        self.told(ROW, "e", "", "e")
        self.told(ROW, "a b", "", "b")

    def test_a_rule_that_nothing_within_on_strikes(self):
        self.told(ROW, "a c d e", "", "a d e")
        self.told(ROW, "a", "", "a")
        self.told(ROW, "b", "", "b")
        self.told(ROW, "a c", "", "a c")

    def test_what_strikes_it_is_struck(self):
        self.told(ROW, ALL, "c", "a d e")
        self.told(ROW, ALL, "d", "b d e")
        self.told(ROW, ALL, "b d", "b d e")
        self.told(ROW, ALL, "c d", "a b d e")

    def test_what_strikes_it_is_left_alone(self):
        self.told(ROW, ALL, "a", "d e")
        self.told(ROW, ALL, "b", "d e")
        self.told(ROW, ALL, "e", "d e")

    # Each clashes with the other and neither weighs more: either defends itself.
    def test_two_rules_against_each_other(self):
        text = lines("rule a: => p", "rule b: => ~p")
        self.told(text, "a b", "", "")
        self.told(text, "a b", "a", "a")
        self.told(text, "a b", "b", "b")
        self.told(text, "a b", "a b", "a b")

    def test_one_of_the_rules_that_it_takes_is_struck(self):
        self.told(JOINT, "a b c d", "d", "a b d")
        self.told(JOINT, "a b c d", "", "b d")
        self.told(JOINT, "a b c", "d", "a b c")
        self.told(JOINT, "a b c", "", "b c")
        self.told(JOINT, "a b", "", "a b")

    # b and c each strike a; a set has to strike both.
    def test_every_striking_set_has_to_be_met(self):
        text = lines("rule a: => p", "rule b: b => ~p", "rule c: c => ~p", "rule d: => ~b", "rule e: => ~c",
                     "weigh b > a", "weigh c > a", "weigh d > b", "weigh e > c")
        self.told(text, ALL, "d", "d e")
        self.told(text, ALL, "e", "d e")
        self.told(text, ALL, "d e", "a d e")
        self.told(text, "a b d e", "d", "a d e")

    def test_nothing_defends_what_the_empty_set_strikes(self):
        text = lines("rule a: => ~a", "rule b: => p", "rule c: => ~p", "weigh a > b", "weigh a > c")
        for names in ("", "a", "b", "c", "a b", "a c", "b c", "a b c"):
            for on in ("a", "a b", "a b c"):
                answer = defended(set_of(on, text), set_of(names, text), text)
                self.assertEqual(answer[0], 0)
                self.assertEqual(answer[1] % 2, 0, (on, names))
        self.told(text, "a", "a b c", "")

    # d is not of on, but strikes c for all that.
    def test_a_set_strikes_with_rules_that_are_not_of_on(self):
        self.told(ROW, "a b c", "d", "b c")
        self.told(ROW, "a b", "c", "a b")
        self.told(ROW, "b c", "d", "b c")

    def test_rules_that_are_not_of_on_are_not_told(self):
        self.told(ROW, "b c e", "d", "b c e")
        self.told(ROW, "c", "a b c d e", "c")
        self.told(ROW, "", "a b c d e", "")
        self.told(ROW, "d", "", "d")

    # What clashes defends all the same: it strikes what it strikes.
    def test_a_set_that_clashes(self):
        self.told(ROW, ALL, "c d b", "a b d e")
        self.told(ROW, ALL, ALL, "a b d e")

    def test_empty_sets(self):
        self.told(ROW, "", "", "")
        self.assertEqual(defended(0, 0, ""), [0, 0])
        self.assertEqual(defended(0, 0, "law a: -> p\n"), [0, 0])

    def test_ten_rules(self):
        rules = [f"rule r{i}: => p{i}" for i in range(10)]
        laws = [f"law l{i}: p{i} -> ~p{i + 1}" for i in range(9)]
        weights = [f"weigh r{i + 1} > r{i}" for i in range(9)]
        text = lines(*rules, *laws, *weights)
        self.assertEqual(defended(1023, 0, text), [0, 0b1000000000])
        self.assertEqual(defended(1023, 0b1000000000, text), [0, 0b1010000000])
        self.assertEqual(defended(1023, 0b1010101010, text), [0, 0b1010101010])

    def test_bits_that_are_no_rule_s(self):
        for far in (32, 33, 63, 1024, 4294967264, 4294967295):
            for near in (0, 1, 31):
                self.assertEqual(defended(far, near, ROW), [-1])
                self.assertEqual(defended(near, far, ROW), [-1])
            self.assertEqual(defended(far, far, ROW), [-1])
        for on, chosen in ((1, 0), (0, 1), (1, 1), (4294967295, 4294967295)):
            self.assertEqual(defended(on, chosen, ""), [-1])

    def test_answers_are_ints(self):
        for on, chosen in ((0, 0), (31, 8), (32, 0)):
            self.assertEqual({type(each) for each in defended(on, chosen, ROW)}, {int})


if __name__ == "__main__":
    unittest.main()
