"""clash: whether an atom and its opposite follow from a set of rules."""

import unittest

from texts import clash, lines, set_of


class Clash(unittest.TestCase):
    def clashing(self, text, *sets):
        for names in sets:
            self.assertEqual(clash(set_of(names, text), text), [0, 1], names)

    def sound(self, text, *sets):
        for names in sets:
            self.assertEqual(clash(set_of(names, text), text), [0, 0], names)

    def test_the_empty_case_and_the_empty_set(self):
        self.assertEqual(clash(0, ""), [0, 0])
        self.assertEqual(clash(0, lines("rule a: => ~a", "rule b: => p", "law l: b -> ~p")), [0, 0])
        self.assertEqual(clash(0, lines("law l: -> p", "law m: q -> ~p", "law n: ~p, p -> q")), [0, 0])

    def test_a_rule_whose_head_is_the_opposite_of_its_name(self):
        text = lines("rule a: => ~a", "rule b: => b")
        self.clashing(text, "a", "a b")
        self.sound(text, "", "b")

    def test_a_rule_that_clashes_by_itself_through_a_law(self):
        text = lines("rule a: => p", "law l: p -> q", "law m: a, q -> ~p", "rule b: => q")
        self.clashing(text, "a", "a b")
        self.sound(text, "", "b")

    def test_a_rule_against_what_the_laws_alone_make(self):
        text = lines("law l: -> p", "rule a: => ~p", "rule b: => p")
        self.clashing(text, "a", "a b")
        self.sound(text, "", "b")

    def test_two_rules(self):
        text = lines("rule a: => p", "rule b: => ~p", "rule c: => q")
        self.clashing(text, "a b", "a b c")
        self.sound(text, "a", "b", "c", "a c", "b c")

    def test_a_rule_against_another_s_name(self):
        text = lines("rule a: => ~b", "rule b: => p")
        self.clashing(text, "a b")
        self.sound(text, "a", "b")

    def test_three_rules_only_together(self):
        text = lines("rule a: => p", "rule b: => q", "rule c: => r", "law l: p, q -> ~r")
        self.clashing(text, "a b c")
        self.sound(text, "a b", "a c", "b c", "a", "b", "c")

    def test_through_laws_in_several_steps(self):
        text = lines("law z: s -> ~t", "law y: r -> s", "law x: p, q -> r", "law w: q -> t", "rule a: => p", "rule b: => q")
        self.clashing(text, "a b")
        self.sound(text, "a", "b")

    def test_through_a_rule_s_body(self):
        text = lines("rule a: => p", "rule b: p => q", "rule c: q => ~p")
        self.clashing(text, "a b c")
        self.sound(text, "a b", "b c", "a c", "c")

    def test_weights_do_not_matter(self):
        text = lines("rule a: => p", "rule b: => ~p", "weigh a > b")
        self.clashing(text, "a b")

    # A body that is never whole makes nothing, so its head clashes with nothing.
    def test_a_head_that_does_not_follow(self):
        text = lines("rule a: => p", "rule b: q => ~p")
        self.sound(text, "a b")

    def test_other_atoms_are_no_opposites(self):
        text = lines("rule a: => p", "rule b: => ~p0", "rule c: => ~q")
        self.sound(text, "a b c")

    def test_ten_rules_only_all_together(self):
        rules = [f"rule r{i}: => r{i}" for i in range(8)]
        text = lines(*rules, "law l: r0, r1, r2, r3 -> p", "law m: r4, r5, r6, r7 -> q", "rule r8: p, q => s",
                     "rule r9: p, q => ~s")
        self.assertEqual(clash(1023, text), [0, 1])
        for i in range(10):
            self.assertEqual(clash(1023 - 2 ** i, text), [0, 0])

    def test_bits_that_are_no_rule_s(self):
        text = lines("rule a: => p", "rule b: => ~p")
        for chosen in (4, 5, 7, 8, 1024, 4294967292, 4294967295):
            self.assertEqual(clash(chosen, text), [-1])
        for chosen in (1, 2, 4294967295):
            self.assertEqual(clash(chosen, ""), [-1])

    def test_answers_are_ints(self):
        text = lines("rule a: => ~a")
        for chosen in (0, 1, 2):
            self.assertEqual({type(each) for each in clash(chosen, text)}, {int})


if __name__ == "__main__":
    unittest.main()
