"""read of texts that tell a case."""

import unittest

from texts import atoms, lines, read

WHOLE = lines(
    "law born: -> bird",
    "law wing: bird, ~ill -> has-wings",
    "rule flies: bird, has-wings => fly",
    "rule rests: => ~fly",
    "weigh flies > rests",
)


class GoodTexts(unittest.TestCase):
    def good(self, text):
        self.assertEqual(read(text), [0], text)

    def test_empty_text(self):
        self.good("")

    def test_laws_rules_and_weights(self):
        self.good(WHOLE)

    def test_answer_is_a_list_of_ints(self):
        for text in ("", WHOLE, "x\n", "x"):
            answer = read(text)
            self.assertIs(type(answer), list)
            self.assertEqual([type(each) for each in answer], [int] * len(answer))

    def test_bodies_of_0_to_6_literals(self):
        for number in range(7):
            body = ", ".join(atoms(number))
            blank = " " if body else ""
            self.good(f"law a:{blank}{body} -> q\n")
            self.good(f"rule a:{blank}{body} => q\n")

    def test_opposites_in_body_and_head(self):
        self.good("law a: ~p, q -> ~r\n")
        self.good("rule a: ~p => ~q\n")

    def test_names_of_1_and_15_bytes(self):
        self.good("law a: -> p\n")
        self.good("law abcdefghijklmno: abcdefghijklmno -> ~abcdefghijklmno\n")

    def test_names_with_digits_and_hyphens(self):
        self.good("law z9-: a-, b--0 -> z-9\n")
        self.good(lines("rule z9-: => p", "rule a0: => q", "weigh z9- > a0"))

    def test_the_lines_first_words_are_names_too(self):
        self.good(lines("law law: rule -> weigh", "rule rule: law => weigh", "rule weigh: => law",
                        "weigh rule > weigh"))

    def test_an_atom_may_bear_a_clause_name(self):
        self.good(lines("law a: a -> ~a", "rule b: b => ~b"))

    def test_head_may_stand_in_the_body(self):
        self.good(lines("law a: p -> p", "rule b: p => p"))

    def test_weights_between_other_lines(self):
        self.good(lines("rule a: => p", "rule b: => q", "weigh a > b", "law c: -> r", "rule d: => s", "weigh d > a"))


if __name__ == "__main__":
    unittest.main()
