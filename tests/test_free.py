"""free: whether a set strikes none of its own rules."""

import unittest

from texts import free, lines, set_of

TWO = lines("rule a: => p", "rule b: => ~p", "rule c: => q")


class Free(unittest.TestCase):
    def told(self, text, answer, *sets):
        for names in sets:
            self.assertEqual(free(set_of(names, text), text), [0, answer], names)

    def test_the_empty_set(self):
        self.assertEqual(free(0, ""), [0, 1])
        self.assertEqual(free(0, "law a: -> p\n"), [0, 1])
        self.told(TWO, 1, "")
        self.told("rule a: => ~a\n", 1, "")

    def test_sets_that_clash_and_sets_that_do_not(self):
        self.told(TWO, 0, "a b", "a b c")
        self.told(TWO, 1, "a", "b", "c", "a c", "b c")

    def test_weights_either_way(self):
        for weight in ("weigh a > b", "weigh b > a", "weigh a > c", "weigh c > b"):
            self.told(TWO + lines(weight), 0, "a b", "a b c")
            self.told(TWO + lines(weight), 1, "a", "b", "c", "a c", "b c")

    # Whichever way they weigh, one of the three outweighs neither of the others.
    def test_three_rules_only_together_with_weights(self):
        text = lines("rule a: => p", "rule b: => q", "rule c: => r", "law l: p, q -> ~r")
        for weights in ([], ["weigh a > b"], ["weigh a > b", "weigh b > c"], ["weigh c > a", "weigh c > b"],
                        ["weigh c > b", "weigh b > a"], ["weigh a > b", "weigh c > b"]):
            self.told(text + lines(*weights), 0, "a b c")
            self.told(text + lines(*weights), 1, "a b", "a c", "b c", "a", "b", "c")

    def test_a_rule_that_clashes_by_itself(self):
        text = lines("rule a: => ~a", "rule b: => p", "weigh a > b")
        self.told(text, 0, "a", "a b")
        self.told(text, 1, "", "b")

    def test_ten_rules(self):
        text = lines(*[f"rule r{i}: => p{i}" for i in range(10)])
        self.assertEqual(free(1023, text), [0, 1])
        self.assertEqual(free(1023, text + lines("law l: p0, p9 -> ~p4", "weigh r0 > r9", "weigh r4 > r9")), [0, 0])

    def test_bits_that_are_no_rule_s(self):
        for chosen in (8, 9, 15, 16, 1024, 4294967288, 4294967295):
            self.assertEqual(free(chosen, TWO), [-1])
        for chosen in (1, 2, 4294967295):
            self.assertEqual(free(chosen, ""), [-1])

    def test_answers_are_ints(self):
        for chosen in (0, 3, 8):
            self.assertEqual({type(each) for each in free(chosen, TWO)}, {int})


if __name__ == "__main__":
    unittest.main()
