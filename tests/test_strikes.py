"""strikes: whether a set strikes a rule."""

import unittest

from texts import lines, rule_number, set_of, strikes

TWO = lines("rule a: => p", "rule b: => ~p", "rule c: => q")


class Strikes(unittest.TestCase):
    def does(self, text, names, rule):
        self.assertEqual(strikes(set_of(names, text), rule_number(rule, text), text), [0, 1], (names, rule))

    def does_not(self, text, names, rule):
        self.assertEqual(strikes(set_of(names, text), rule_number(rule, text), text), [0, 0], (names, rule))

    def test_two_rules_without_a_weight(self):
        self.does(TWO, "a", "b")
        self.does(TWO, "b", "a")
        for rule in "abc":
            self.does_not(TWO, "c", rule)
            self.does_not(TWO, rule, rule)
            self.does_not(TWO, "", rule)

    def test_two_rules_with_a_weight(self):
        self.does(TWO + lines("weigh a > b"), "a", "b")
        self.does_not(TWO + lines("weigh a > b"), "b", "a")
        self.does(TWO + lines("weigh b > a"), "b", "a")
        self.does_not(TWO + lines("weigh b > a"), "a", "b")

    def test_a_weight_by_going_on(self):
        text = TWO + lines("weigh a > c", "weigh c > b")
        self.does(text, "a", "b")
        self.does_not(text, "b", "a")
        self.does_not(text, "b c", "a")

    def test_a_bigger_set_strikes_with_a_set_within_it(self):
        self.does(TWO, "a c", "b")
        self.does(TWO, "b c", "a")
        self.does_not(TWO, "a c", "c")

    # Of a and b that clash, each alone can strike the other, but c is clashed with by neither.
    def test_a_set_that_clashes_by_itself(self):
        self.does(TWO, "a b", "a")
        self.does(TWO, "a b", "b")
        self.does_not(TWO, "a b", "c")
        self.does_not(TWO, "a b c", "c")

    def test_a_clashing_set_strikes_nothing_by_its_clash(self):
        text = lines("rule a: => ~a", "rule b: => p")
        self.does_not(text, "a", "b")
        self.does_not(text, "a b", "b")

    # a and b clash; it takes both of their heads to clash with c, so nothing that can be held does.
    def test_only_the_clashing_set_would_clash_with_it(self):
        text = lines("rule a: => p", "rule b: => ~p", "rule c: => q", "law l: p, ~p -> ~q")
        self.does_not(text, "a b", "c")
        self.does_not(text, "a b c", "c")

    def test_a_set_that_has_the_rule_in_it(self):
        self.does(TWO, "a b c", "a")
        self.does_not(TWO, "a", "a")
        self.does_not(TWO + lines("weigh a > b"), "a b", "a")
        self.does(TWO + lines("weigh a > b"), "a b", "b")

    # What it takes to clash with c is made of c's own head, but then i would be in the set.
    def test_the_rule_itself_does_not_help_to_strike_it(self):
        text = lines("rule a: q => p", "rule b: => ~p", "rule c: => q")
        self.does(text, "a b", "c")
        self.does_not(text, "a c", "c")
        self.does_not(text, "b c", "c")
        self.does(text, "a b c", "c")

    def test_the_empty_set(self):
        text = lines("rule a: => ~a", "rule b: => p")
        self.does(text, "", "a")
        self.does_not(text, "", "b")

    def test_a_rule_that_clashes_by_itself_is_struck_by_every_set(self):
        text = lines("rule a: => ~a", "rule b: => p", "rule c: => ~p", "weigh a > b", "weigh a > c")
        for names in ("", "a", "b", "c", "a b", "b c", "a b c"):
            self.does(text, names, "a")

    def test_a_rule_that_the_laws_alone_are_against(self):
        text = lines("law l: -> p", "rule a: => ~p", "rule b: => q", "weigh a > b")
        self.does(text, "", "a")
        self.does(text, "b", "a")
        self.does_not(text, "a", "b")

    def test_rules_that_it_outweighs_beside_rules_that_it_does_not(self):
        text = lines("rule a: => p", "rule b: => ~p", "rule c: => q", "law l: c -> ~p", "weigh a > b")
        self.does_not(text, "b", "a")
        self.does(text, "c", "a")
        self.does(text, "b c", "a")

    # It takes b and c together; that a outweighs one of them is enough.
    def test_one_outweighed_rule_among_those_it_takes(self):
        text = lines("rule a: => p", "rule b: => q", "rule c: => r", "law l: q, r -> ~p")
        self.does(text, "b c", "a")
        self.does_not(text, "b", "a")
        self.does_not(text, "c", "a")
        self.does_not(text + lines("weigh a > b"), "b c", "a")
        self.does_not(text + lines("weigh a > c"), "b c", "a")
        self.does(text + lines("weigh a > c"), "a b", "c")
        self.does(text + lines("weigh b > a", "weigh c > a"), "b c", "a")
        self.does_not(text + lines("weigh b > a", "weigh c > a"), "a c", "b")

    def test_through_a_rule_s_body(self):
        text = lines("rule a: => p", "rule b: p => q", "rule c: q => ~d", "rule d: => d")
        self.does(text, "a b c", "d")
        self.does(text, "a b d", "c")
        self.does(text, "b c d", "a")
        self.does_not(text, "a b", "d")
        self.does_not(text, "b c", "d")

    def test_bits_that_are_no_rule_s(self):
        for chosen in (8, 9, 16, 1024, 4294967288, 4294967295):
            for i in (0, 2, 3, 4294967295):
                self.assertEqual(strikes(chosen, i, TWO), [-1])
        self.assertEqual(strikes(1, 0, ""), [-1])

    def test_numbers_that_are_no_rule_s(self):
        for i in (3, 4, 10, 32, 4294967295):
            for chosen in (0, 7):
                self.assertEqual(strikes(chosen, i, TWO), [-1])
        self.assertEqual(strikes(0, 0, ""), [-1])
        self.assertEqual(strikes(0, 0, "law a: -> p\n"), [-1])

    def test_answers_are_ints(self):
        for chosen, i in ((0, 0), (1, 1), (8, 0)):
            self.assertEqual({type(each) for each in strikes(chosen, i, TWO)}, {int})


if __name__ == "__main__":
    unittest.main()
