"""follows: what laws and a set of rules make."""

import itertools
import random
import unittest

import cases
from strikecase import desk
from texts import follows, lines, rows, words_that_follow

# The rules' numbers: a 0, b 1, c 2.
STEPS = (
    "law one: p, b -> q",
    "law two: q -> ~r",
    "rule a: => p",
    "rule b: => t",
    "rule c: ~r, t => u",
    "law three: u, c -> v",
)


class Follows(unittest.TestCase):
    def told(self, chosen, text, words):
        self.assertEqual(words_that_follow(chosen, text), words)

    def test_numbers_rising(self):
        # The atoms' numbers: a 0, p 1, q 2, z 3.
        self.assertEqual(follows(1, lines("rule a: => ~q", "law l: ~q -> p", "law k: p -> ~z")), [0, 0, 2, 5, 7])

    def test_the_empty_case(self):
        self.assertEqual(follows(0, ""), [0])

    def test_the_empty_set(self):
        self.told(0, lines(*STEPS), "")
        self.told(0, lines("law z: -> p", "law y: p -> ~q", "law x: r -> s", "rule a: p => b"), "p ~q")

    def test_one_rule(self):
        self.told(1, lines(*STEPS), "a p")
        self.told(2, lines(*STEPS), "b t")
        self.told(4, lines(*STEPS), "c")

    def test_all_rules_in_several_steps(self):
        self.told(3, lines(*STEPS), "a b p q ~r t")
        self.told(7, lines(*STEPS), "a b c p q ~r t u v")

    def test_whatever_the_order_of_lines(self):
        for moved in itertools.permutations(STEPS):
            self.assertEqual(words_that_follow(7, lines(*moved)), "a b c p q ~r t u v")

    def test_a_body_that_is_never_whole(self):
        text = lines("law a: p, q -> r", "rule x: => p", "rule y: p, ~q => s", "rule z: z, nope => q")
        self.told(7, text, "p x y z")

    def test_a_body_s_opposite_does_not_make_it_whole(self):
        self.told(1, lines("rule a: => p", "law l: ~p -> q", "law m: ~a -> q"), "a p")
        self.told(1, lines("rule a: => ~p", "law l: p -> q"), "a ~p")

    def test_a_law_s_name_does_not_follow(self):
        self.told(0, lines("law a: -> p", "law b: a -> q"), "p")

    def test_a_rule_outside_of_the_set_does_nothing(self):
        text = lines("rule a: => p", "rule b: p => q", "law l: b -> r")
        self.told(1, text, "a p")
        self.told(2, text, "b r")
        self.told(3, text, "a b p q r")

    # b and c have their names said by others without being in the set, so their heads do not follow.
    def test_a_name_that_follows_puts_no_rule_into_the_set(self):
        self.told(1, lines("rule a: => b", "rule b: => p", "rule c: => q", "law l: b -> c"), "a b c")

    def test_bodies_that_need_one_another(self):
        self.told(3, lines("rule a: q => p", "rule b: p => q"), "a b")
        self.told(0, lines("law a: q -> p", "law b: p -> q"), "")
        self.told(0, lines("law a: p -> p"), "")

    def test_six_literals_in_a_body(self):
        text = lines("law l: p0, p1, p2, p3, p4, ~p5 -> q", *[f"rule r{i}: => {'~' if i == 5 else ''}p{i}" for i in range(6)])
        self.told(63, text, "p0 p1 p2 p3 p4 ~p5 q r0 r1 r2 r3 r4 r5")
        for i in range(6):
            self.assertNotIn("q", words_that_follow(63 - 2 ** i, text).split())

    def test_what_clashes_follows_both_and_nothing_else_from_that(self):
        self.told(3, lines("rule a: => p", "rule b: => ~p", "rule c: => q", "law l: r -> s"), "a b p ~p")
        self.told(1, "rule a: => ~a\n", "a ~a")
        self.told(1, lines("rule a: => p", "law l: p -> ~p", "law m: ~p, p -> q"), "a p ~p q")

    def test_each_once(self):
        text = lines("rule a: => p", "rule b: a => p", "law l: a -> p", "law m: p -> a", "law n: b -> p", "law o: p, a -> b")
        self.told(3, text, "a b p")

    def test_all_ten_rules(self):
        text = lines(*[f"rule r{i}: => p{i}" for i in range(10)])
        self.assertEqual(follows(1023, text), [0] + list(range(0, 40, 2)))
        self.assertEqual(follows(512, text), [0, 18, 38])
        self.assertEqual(follows(1024, text), [-1])

    def test_a_chain_of_all_laws_from_behind(self):
        text = lines(*[f"law l{i:02}: p{i:02} -> p{i + 1:02}" for i in reversed(range(62))], "rule p00: => p00")
        self.assertEqual(follows(1, text), [0] + list(range(0, 126, 2)))

    def test_bits_that_are_no_rule_s(self):
        for chosen in (8, 9, 15, 16, 1024, 2147483648, 4294967288, 4294967295):
            self.assertEqual(follows(chosen, lines(*STEPS)), [-1])
        for chosen in (1, 2, 4294967295):
            self.assertEqual(follows(chosen, ""), [-1])
            self.assertEqual(follows(chosen, "law a: -> p\n"), [-1])

    def test_answers_are_ints(self):
        self.assertEqual({type(each) for each in follows(7, lines(*STEPS))}, {int})


class MoreRulesMoreFollows(unittest.TestCase):
    def test_over_many_cases(self):
        chance = random.Random(11)
        for i in range(60):
            t = rows(cases.some_case(chance, most_rules=5))
            number = desk.count(1, t)[1]
            told = [set(desk.follows(chosen, t)[1:]) for chosen in range(2 ** number)]
            for chosen in range(2 ** number):
                for more in range(2 ** number):
                    if chosen & more == chosen:
                        self.assertLessEqual(told[chosen], told[more])


if __name__ == "__main__":
    unittest.main()
