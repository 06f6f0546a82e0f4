"""count: laws, rules, atoms, weights of the one form."""

import unittest

from texts import count, lines

CASE = lines(
    "law one: p, ~q -> r",
    "law two: -> ~s",
    "rule a: => p",
    "rule b: t => ~a",
    "rule c: u => r",
    "law three: p -> one",
    "weigh a > b",
    "weigh b > c",
    "weigh a > c",
)


class Count(unittest.TestCase):
    def counts(self, text, numbers):
        self.assertEqual([count(what, text) for what in range(4)], [[0, number] for number in numbers])

    def test_empty_case(self):
        self.counts("", [0, 0, 0, 0])

    # Atoms: p q r s t u, the rules a b c, and one, which stands as a literal.
    def test_each(self):
        self.counts(CASE, [3, 3, 10, 2])

    def test_answers_are_ints(self):
        for what in range(5):
            self.assertEqual({type(each) for each in count(what, CASE)}, {int})

    def test_law_names_are_no_atoms(self):
        self.counts("law a: -> p\n", [1, 0, 1, 0])

    def test_rule_names_are_atoms(self):
        self.counts("rule a: => p\n", [0, 1, 2, 0])
        self.counts("rule a: a => ~a\n", [0, 1, 1, 0])

    def test_an_atom_counts_once(self):
        self.counts(lines("law a: p, ~p -> q", "law b: q -> p"), [2, 0, 2, 0])

    def test_the_most(self):
        laws = [f"law a{i}: -> p{i}" for i in range(54)] + [f"law b{i}: p1 -> p{i + 2}" for i in range(10)]
        rules = [f"rule r{i}: => p{i}" for i in range(10)]
        self.counts(lines(*laws, *rules), [64, 10, 64, 0])

    def test_weights_of_the_one_form(self):
        rules = lines(*[f"rule r{i}: => p{i}" for i in range(10)])
        self.counts(rules + lines(*[f"weigh r{i} > r{j}" for i in range(5) for j in range(5, 10)]), [0, 10, 20, 25])
        self.counts(rules + lines(*[f"weigh r{i} > r{j}" for j in range(10) for i in range(j)]), [0, 10, 20, 9])
        self.counts(rules + lines("weigh r1 > r2", "weigh r1 > r2"), [0, 10, 20, 1])

    def test_other_numbers(self):
        for what in (4, 5, 6, 7, 8, 255, 256, 4294967294, 4294967295):
            self.assertEqual(count(what, CASE), [-1])
            self.assertEqual(count(what, ""), [-1])


if __name__ == "__main__":
    unittest.main()
