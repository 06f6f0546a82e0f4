"""struck: the rules of a set on that a set strikes out."""

import unittest

from texts import lines, set_of, struck

# a and b clash, so do c and d, and d outweighs c.
PAIRS = lines("rule a: => p", "rule b: => ~p", "rule c: => q", "rule d: => ~q", "weigh d > c")


class Struck(unittest.TestCase):
    def told(self, text, on, names, expected):
        answer = struck(set_of(on, text), set_of(names, text), text)
        self.assertEqual(answer, [0, set_of(expected, text)], (on, names))

    def test_apart(self):
        self.told(PAIRS, "a c", "b d", "a c")
        self.told(PAIRS, "b d", "a c", "b")
        self.told(PAIRS, "a b", "c d", "")

    def test_the_set_within_on(self):
        self.told(PAIRS, "a b c d", "a", "b")
        self.told(PAIRS, "a b c d", "d", "c")
        self.told(PAIRS, "a b c d", "c", "")
        self.told(PAIRS, "a b c d", "a d", "b c")

    def test_on_within_the_set(self):
        self.told(PAIRS, "a", "a b c d", "a")
        self.told(PAIRS, "d", "a b c d", "")
        self.told(PAIRS, "c d", "b c d", "c")

    def test_the_same(self):
        self.told(PAIRS, "a b c d", "a b c d", "a b c")
        self.told(PAIRS, "a c", "a c", "")
        self.told(PAIRS, "c d", "c d", "c")

    def test_rules_that_are_not_of_on_are_not_told(self):
        self.told(PAIRS, "a", "a d", "")
        self.told(PAIRS, "a b", "a d", "b")
        self.told(PAIRS, "b", "a d", "b")
        self.told(PAIRS, "", "a b c d", "")

    def test_a_rule_of_the_set_s_own(self):
        self.told(PAIRS, "b", "a b", "b")
        self.told(PAIRS, "a b", "a b", "a b")
        self.told(PAIRS, "a", "a b", "a")

    def test_empty_sets(self):
        self.told(PAIRS, "", "", "")
        self.told(PAIRS, "a b c d", "", "")
        self.assertEqual(struck(0, 0, ""), [0, 0])
        self.assertEqual(struck(0, 0, "law a: -> p\n"), [0, 0])

    def test_the_empty_set_strikes_out_what_clashes_by_itself(self):
        text = lines("rule a: => ~a", "rule b: => p", "rule c: => ~c")
        self.told(text, "a b c", "", "a c")
        self.told(text, "a b", "", "a")
        self.told(text, "b", "", "")
        self.told(text, "b c", "a", "c")

    def test_it_takes_several(self):
        text = lines("rule a: => p", "rule b: => q", "rule c: => r", "law l: p, q -> ~r", "rule d: => d")
        self.told(text, "a b c d", "a b", "c")
        self.told(text, "a b c d", "a c d", "b")
        self.told(text, "a b c d", "a d", "")
        self.told(text, "a b c d", "a b c d", "a b c")

    def test_ten_rules(self):
        text = lines(*[f"rule r{i}: => {'~' * (i % 2)}p{i // 2}" for i in range(10)])
        self.assertEqual(struck(1023, 0b0101010101, text), [0, 0b1010101010])
        self.assertEqual(struck(0b1000000000, 0b0101010101, text), [0, 0b1000000000])
        self.assertEqual(struck(1023, 1023, text), [0, 1023])

    def test_bits_that_are_no_rule_s(self):
        for far in (16, 17, 31, 1024, 4294967280, 4294967295):
            for near in (0, 1, 15):
                self.assertEqual(struck(far, near, PAIRS), [-1])
                self.assertEqual(struck(near, far, PAIRS), [-1])
            self.assertEqual(struck(far, far, PAIRS), [-1])
        for on, chosen in ((1, 0), (0, 1), (1, 1), (4294967295, 4294967295)):
            self.assertEqual(struck(on, chosen, ""), [-1])

    def test_answers_are_ints(self):
        for on, chosen in ((0, 0), (15, 15), (16, 0)):
            self.assertEqual({type(each) for each in struck(on, chosen, PAIRS)}, {int})


if __name__ == "__main__":
    unittest.main()
