"""number: of the literal that some bytes are."""

import unittest

from strikecase import desk
from texts import lines, number, rows

CASE = lines(
    "rule q: p, ~ab => ~r",
    "law lex: -> a",
    "rule only: a- => p",
)
ATOMS = ["a", "a-", "ab", "only", "p", "q", "r"]


class Number(unittest.TestCase):
    def none(self, text, literal):
        self.assertEqual(number(text, literal), [-3], literal)

    def test_each_atom_and_its_opposite(self):
        for i, atom in enumerate(ATOMS):
            self.assertEqual(number(CASE, atom), [0, 2 * i])
            self.assertEqual(number(CASE, "~" + atom), [0, 2 * i + 1])

    def test_whatever_the_order_of_lines(self):
        moved = "".join(reversed(CASE.splitlines(keepends=True)))
        for atom in ATOMS:
            self.assertEqual(number(moved, atom), number(CASE, atom))
            self.assertEqual(number(moved, "~" + atom), number(CASE, "~" + atom))

    def test_an_atom_that_is_only_a_rule_s_name(self):
        self.assertEqual(number("rule b: => a\n", "b"), [0, 2])
        self.assertEqual(number("rule b: => a\n", "~b"), [0, 3])

    def test_the_most_atoms(self):
        text = lines(*[f"law l{i}: -> p{i:02}" for i in range(64)])
        self.assertEqual(number(text, "p00"), [0, 0])
        self.assertEqual(number(text, "~p63"), [0, 127])
        self.none(text, "p64")

    def test_bytes_that_are_no_literal(self):
        for atom in ("a", "p", "only"):
            for literal in ("~~" + atom, atom + " ", " " + atom, atom + ",", atom + "\n", "~ " + atom, atom + "~",
                            atom + ":", atom + "\0", "\0" + atom, atom + "\r", atom.upper(), "~" + atom.upper(),
                            "-" + atom, "0" + atom, atom + "_", atom + "\xff", "~" + atom + " ", "~" + atom + ",",
                            "~" + atom + "\n", atom + " " + atom):
                self.none(CASE, literal)
        for literal in ("", "~", "~~", "~~~", " ", "\n", ",", "-", "0", "a" * 16, "~" + "a" * 16):
            self.none(CASE, literal)

    def test_as_many_as_8300_bytes(self):
        for literal in ("a" * 8300, "~" * 8300, "~" + "a" * 8299, "\n" * 8300, "p" + " " * 8299):
            self.none(CASE, literal)
        self.assertEqual(desk.number(rows(CASE), [255] * 8300), [-3])

    def test_names_of_fifteen_and_sixteen_bytes(self):
        text = f"rule {'a' * 15}: => b\n"
        self.assertEqual(number(text, "a" * 15), [0, 0])
        self.assertEqual(number(text, "~" + "a" * 15), [0, 1])
        self.none(text, "a" * 14)
        self.none(text, "a" * 16)
        self.none(text, "~" + "a" * 16)

    def test_a_law_s_name_that_is_no_atom(self):
        self.none(CASE, "lex")
        self.none(CASE, "~lex")

    def test_a_law_s_name_that_is_an_atom_too(self):
        self.assertEqual(number("law lex: -> lex\n", "~lex"), [0, 1])

    def test_names_that_are_not_the_case_s(self):
        for literal in ("b", "aa", "a0", "a--", "onl", "onlyy", "s", "law", "rule"):
            self.none(CASE, literal)
            self.none(CASE, "~" + literal)

    def test_the_empty_case(self):
        for literal in ("", "~", "a", "~a", "a" * 16):
            self.none("", literal)

    def test_answers_are_ints(self):
        self.assertEqual({type(each) for each in number(CASE, "~p")}, {int})

    def test_what_is_handed_in_stays(self):
        t, literal = rows(CASE), rows("~p")
        desk.number(t, literal)
        self.assertEqual((t, literal), (rows(CASE), rows("~p")))


if __name__ == "__main__":
    unittest.main()
