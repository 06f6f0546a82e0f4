"""name: of law, rule, atom i."""

import itertools
import unittest

from texts import lines, name, named, rows

CASE = (
    "law m: p, ~q -> r",
    "law d: -> ~s",
    "rule zz: => p",
    "rule b: t => ~zz",
    "rule k1: u => r",
    "law x: p -> one",
)
LAWS = ["d", "m", "x"]
RULES = ["b", "k1", "zz"]
ATOMS = ["b", "k1", "one", "p", "q", "r", "s", "t", "u", "zz"]


class Name(unittest.TestCase):
    def names(self, what, text, expected):
        for i, each in enumerate(expected):
            self.assertEqual(name(what, i, text), [0] + rows(each))
        for i in (len(expected), len(expected) + 1, 64, 256, 4294967295):
            self.assertEqual(name(what, i, text), [-3])

    def test_each_in_order(self):
        self.names(0, lines(*CASE), LAWS)
        self.names(1, lines(*CASE), RULES)
        self.names(2, lines(*CASE), ATOMS)

    def test_whatever_the_order_of_lines(self):
        for moved in itertools.permutations(CASE[1:]):
            text = lines(*moved, CASE[0])
            self.assertEqual([named(0, i, text) for i in range(3)], LAWS)
            self.assertEqual([named(1, i, text) for i in range(3)], RULES)
            self.assertEqual([named(2, i, text) for i in (0, 5, 9)], ["b", "r", "zz"])

    def test_a_beginning_stands_first(self):
        names = ["a", "a-", "a--", "a-a", "a0", "a00", "aa", "aaa", "ab", "b"]
        laws = [f"law {each}: p{i} -> q{i}" for i, each in enumerate(names)]
        self.names(0, lines(*reversed(laws)), names)
        rules = [f"rule {each}: => {each}" for each in names]
        self.names(1, lines(*reversed(rules)), names)
        self.names(2, lines(*reversed(rules)), names)

    def test_names_of_fifteen_bytes(self):
        long = ["abcdefghijklmno", "abcdefghijklmnp", "zzzzzzzzzzzzzz-"]
        text = lines(*[f"rule {each}: => ~{each}" for each in long[::-1]])
        self.names(1, text, long)
        self.names(2, text, long)

    def test_the_most(self):
        laws = [f"law a{i}: -> p{i}" for i in range(54)] + [f"law b{i}: p1 -> p{i + 2}" for i in range(10)]
        rules = [f"rule r{i}: => p{i}" for i in range(10)]
        text = lines(*laws[::-1], *rules[::-1])
        self.names(0, text, sorted([f"a{i}" for i in range(54)] + [f"b{i}" for i in range(10)]))
        self.names(1, text, [f"r{i}" for i in range(10)])
        self.names(2, text, sorted([f"p{i}" for i in range(54)] + [f"r{i}" for i in range(10)]))

    def test_a_law_s_name_is_no_atom_s(self):
        self.names(2, "law a: -> p\n", ["p"])

    def test_a_weight_names_nothing_new(self):
        text = lines("rule b: => b", "rule a: => a", "weigh b > a")
        self.names(1, text, ["a", "b"])
        self.names(2, text, ["a", "b"])

    def test_what_out_of_bounds(self):
        for what in (3, 4, 255, 256, 4294967294, 4294967295):
            for i in (0, 1, 2, 3, 10, 64, 4294967295):
                self.assertEqual(name(what, i, lines(*CASE)), [-1])
                self.assertEqual(name(what, i, ""), [-1])

    def test_nothing_in_the_empty_case(self):
        for what in (0, 1, 2):
            self.names(what, "", [])

    def test_only_laws_only_rules(self):
        self.names(1, "law a: -> p\n", [])
        self.names(0, "rule a: => p\n", [])

    def test_answers_are_ints(self):
        self.assertEqual({type(each) for each in name(0, 0, lines(*CASE))}, {int})


if __name__ == "__main__":
    unittest.main()
