"""kind: not within on or not free, free, admissible, complete."""

import unittest

from texts import kind, lines, set_of

# b strikes a, c strikes b; d is left alone.
ROW = lines("rule a: => p", "rule b: => q", "rule c: => r", "rule d: => d",
            "law ab: p -> ~q", "law bc: q -> ~r", "weigh c > b", "weigh b > a")
ALL = "a b c d"


class Kind(unittest.TestCase):
    def told(self, text, on, expected, *sets):
        for names in sets:
            self.assertEqual(kind(set_of(on, text), set_of(names, text), text), [0, expected], (on, names))

    def test_not_within_on(self):
        self.told(ROW, "a b", 0, "c", "a c", "a b c", "d", "a d")
        self.told(ROW, "", 0, "a", "d", ALL)
        self.told(ROW, "a c d", 0, "b")

    def test_within_on_but_not_free(self):
        self.told(ROW, ALL, 0, "a b", "b c", "a b c", ALL)
        self.told(ROW, "a b", 0, "a b")
        self.told("rule a: => ~a\n", "a", 0, "a")

    def test_free_but_it_does_not_defend_all_its_own(self):
        self.told(ROW, ALL, 1, "a", "b", "a d", "b d")
        self.told(ROW, "a b", 1, "a")

    def test_admissible_but_it_defends_more(self):
        self.told(ROW, ALL, 2, "", "c", "d", "c d", "a c")
        self.told(ROW, "c d", 2, "", "c", "d")

    def test_complete(self):
        self.told(ROW, ALL, 3, "a c d")
        self.told(ROW, "a b", 3, "b")
        self.told(ROW, "b c", 3, "c")
        self.told(ROW, "a c d", 3, "a c d")
        self.told(ROW, "a", 3, "a")

    # Several are complete where rules are against each other: none of them, or either.
    def test_two_rules_against_each_other(self):
        text = lines("rule a: => p", "rule b: => ~p")
        self.told(text, "a b", 3, "", "a", "b")
        self.told(text, "a b", 0, "a b")
        self.told(text, "a", 3, "a")
        self.told(text, "a", 2, "")

    # The empty set is within every on and free, and has no rules to defend: 2 or 3.
    def test_the_empty_set(self):
        self.told(ROW, ALL, 2, "")
        self.told(ROW, "d", 2, "")
        self.told(ROW, "", 3, "")
        self.told(lines("rule a: => p", "rule b: => ~p"), "a b", 3, "")
        self.told("rule a: => ~a\n", "a", 3, "")

    def test_on_empty(self):
        self.told(ROW, "", 3, "")
        self.told(ROW, "", 0, "a", "b c", ALL)
        self.assertEqual(kind(0, 0, ""), [0, 3])
        self.assertEqual(kind(0, 0, "law a: -> p\n"), [0, 3])

    def test_three_rules_each_against_each(self):
        text = lines("rule a: => p", "rule b: => q", "rule c: => r", "law l: p -> ~q", "law m: q -> ~r", "law n: r -> ~p")
        self.told(text, "a b c", 3, "", "a", "b", "c")
        self.told(text, "a b c", 0, "a b", "b c", "a c", "a b c")
        self.told(text + lines("weigh a > b"), "a b c", 1, "b")
        self.told(text + lines("weigh a > b"), "a b c", 3, "", "a", "c")

    # c strikes a and isn't struck by it, so c defends b; but b defends itself too.
    def test_admissible_without_all_that_it_defends(self):
        text = lines("rule a: => p", "rule b: => ~p", "rule c: => ~a", "weigh c > a")
        self.told(text, "a b c", 2, "", "b", "c")
        self.told(text, "a b c", 1, "a")
        self.told(text, "a b c", 3, "b c")

    def test_every_set_of_ten_rules_that_do_not_clash(self):
        text = lines(*[f"rule r{i}: => p{i}" for i in range(10)])
        self.assertEqual(kind(1023, 1023, text), [0, 3])
        self.assertEqual(kind(1023, 511, text), [0, 2])
        self.assertEqual(kind(511, 1023, text), [0, 0])

    # Ahead of 0: neither set would be within on.
    def test_bits_that_are_no_rule_s(self):
        for far in (16, 17, 31, 1024, 4294967280, 4294967295):
            for near in (0, 1, 3, 15):
                self.assertEqual(kind(far, near, ROW), [-1])
                self.assertEqual(kind(near, far, ROW), [-1])
            self.assertEqual(kind(far, far, ROW), [-1])
        for on, chosen in ((1, 0), (0, 1), (1, 1), (4294967295, 4294967295)):
            self.assertEqual(kind(on, chosen, ""), [-1])

    def test_answers_are_ints(self):
        for on, chosen in ((0, 0), (15, 3), (15, 1), (15, 4), (15, 13), (16, 0)):
            self.assertEqual({type(each) for each in kind(on, chosen, ROW)}, {int})


if __name__ == "__main__":
    unittest.main()
