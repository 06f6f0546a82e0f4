"""outweighs: the set of rules that a rule outweighs."""

import itertools
import unittest

from texts import lines, outweighs, set_of

RULES = lines(*[f"rule {name}: => {name}" for name in "badce"])


class Outweighs(unittest.TestCase):
    def told(self, text, **sets):
        for name in "abcde":
            i = "abcde".index(name)
            self.assertEqual(outweighs(i, text), [0, set_of(sets.get(name, ""), text)], name)

    def test_nothing(self):
        self.told(RULES)

    def test_one(self):
        self.told(RULES + lines("weigh d > b"), d="b")
        self.told(RULES + lines("weigh b > d"), b="d")

    def test_several(self):
        self.told(RULES + lines("weigh c > e", "weigh c > a", "weigh b > a"), c="a e", b="a")

    def test_by_going_on(self):
        self.told(RULES + lines("weigh a > b", "weigh b > c"), a="b c", b="c")
        chain = lines("weigh e > c", "weigh c > a", "weigh a > d", "weigh d > b")
        self.told(RULES + chain, e="a b c d", c="a b d", a="b d", d="b")

    def test_whatever_the_order_of_the_weights_lines(self):
        for moved in itertools.permutations(["weigh e > c", "weigh c > a", "weigh a > d", "weigh d > b"]):
            self.told(RULES + lines(*moved), e="a b c d", c="a b d", a="b d", d="b")

    def test_told_again(self):
        self.told(RULES + lines("weigh a > b", "weigh a > b", "weigh b > c", "weigh a > c"), a="b c", b="c")

    def test_two_ways(self):
        self.told(RULES + lines("weigh a > b", "weigh a > c", "weigh b > d", "weigh c > d"), a="b c d", b="d", c="d")

    # A line stands as soon as both rules do; what comes behind changes their numbers.
    def test_rules_behind_the_weights(self):
        text = lines("rule c: => c", "rule d: => d", "weigh d > c", "rule b: => b", "weigh c > b", "rule a: => a", "rule e: => e")
        self.told(text, d="b c", c="b")

    def test_clashes_do_not_matter(self):
        text = lines("rule a: => p", "rule b: => ~p", "weigh a > b")
        self.assertEqual([outweighs(0, text), outweighs(1, text)], [[0, 2], [0, 0]])

    def test_ten_rules_in_a_row(self):
        rules = [f"rule r{i}: => p{i}" for i in range(10)]
        text = lines(*rules, *[f"weigh r{i + 1} > r{i}" for i in range(9)])
        self.assertEqual([outweighs(i, text) for i in range(10)], [[0, 2 ** i - 1] for i in range(10)])

    def test_numbers_that_are_no_rule_s(self):
        for i in (5, 6, 10, 31, 32, 255, 4294967295):
            self.assertEqual(outweighs(i, RULES), [-1])
        for i in (0, 1, 4294967295):
            self.assertEqual(outweighs(i, ""), [-1])
            self.assertEqual(outweighs(i, "law a: -> p\n"), [-1])

    def test_answers_are_ints(self):
        for i in (0, 5):
            self.assertEqual({type(each) for each in outweighs(i, RULES)}, {int})


if __name__ == "__main__":
    unittest.main()
