"""clashes: the least clashes; promise 2."""

import itertools
import random
import unittest

import cases
from strikecase import desk
from texts import clash, clashes, lines, rows, set_of


class Clashes(unittest.TestCase):
    def told(self, text, *sets):
        self.assertEqual(clashes(text), [0] + [set_of(names, text) for names in sets])

    def test_none(self):
        self.told("")
        self.told(lines("law l: -> p", "law m: p -> q"))
        self.told(lines("rule a: => p", "rule b: q => ~p", "law l: p -> b"))

    def test_one_rule_alone_and_no_bigger_set_with_it(self):
        self.told(lines("rule a: => ~a", "rule b: => p", "rule c: => q"), "a")
        self.told(lines("rule b: => ~b", "rule a: => b", "rule c: b => ~c"), "b", "a c")

    def test_each_rule_alone(self):
        self.told(lines("rule a: => ~a", "rule b: => ~b", "rule c: b => ~a"), "a", "b")

    # a with b would clash by their heads too, but b clashes alone.
    def test_a_clash_of_two_one_of_which_clashes_alone(self):
        self.told(lines("rule a: => p", "rule b: => ~p", "law l: -> p"), "b")

    def test_several_with_rules_in_common(self):
        text = lines("rule a: => p", "rule b: => ~p", "rule c: => q", "rule d: => ~q", "law l: p -> q",
                     "rule e: => ~b", "law m: a, c, e -> ~e")
        self.told(text, "a b", "a d", "c d", "b e", "a c e")

    def test_rising_by_number_not_by_size(self):
        text = lines("rule a: => p", "rule b: => q", "rule c: => r", "law l: p, q -> ~r", "rule d: => ~d")
        self.assertEqual(clashes(text), [0, 7, 8])
        text = lines("rule d: => p", "rule c: => q", "rule b: => r", "law l: p, q -> ~r", "rule a: => ~a")
        self.assertEqual(clashes(text), [0, 1, 14])

    def test_whatever_the_order_of_lines(self):
        text = ["rule a: => p", "rule b: => ~p", "rule c: p => ~q", "rule d: => q", "law l: d -> ~c"]
        for moved in itertools.permutations(text):
            self.told(lines(*moved), "a b", "c d")

    def test_weights_do_not_matter(self):
        self.told(lines("rule a: => p", "rule b: => ~p", "weigh a > b"), "a b")

    def test_ten_rules_where_every_pair_clashes(self):
        heads = [[f"~r{j}" for j in range(i)] for i in range(10)]
        rules = [f"rule r{i}: => p{i}" for i in range(10)]
        laws = [f"law l{i}x{j}: p{i} -> {head}" for i in range(10) for j, head in enumerate(heads[i])]
        self.assertEqual(clashes(lines(*rules, *laws)), [0] + cases.sets_of_size(2, 10))

    def test_ten_rules_where_each_clashes_alone(self):
        text = lines(*[f"rule r{i}: => ~r{i}" for i in range(10)])
        self.assertEqual(clashes(text), [0] + cases.sets_of_size(1, 10))

    # Each of a pair (r0 r1), (r2 r3), .. makes the pair's atom; all five atoms clash.
    def test_ten_rules_where_only_large_sets_do(self):
        rules = [f"rule r{i}: => r{i}" for i in range(10)]
        laws = [f"law l{i}: r{i} -> p{i // 2}" for i in range(10)]
        text = lines(*rules, *laws, "law all: p0, p1, p2, p3, p4 -> ~p0")
        expected = sorted(sum(2 ** (2 * i + j) for i, j in enumerate(each)) for each in itertools.product((0, 1), repeat=5))
        self.assertEqual(clashes(text), [0] + expected)

    def test_ten_rules_where_only_all_together_do(self):
        rules = [f"rule r{i}: => r{i}" for i in range(10)]
        text = lines(*rules, "law l: r0, r1, r2, r3, r4, r5 -> p", "law m: p, r6, r7, r8, r9 -> ~p")
        self.assertEqual(clashes(text), [0, 1023])

    def test_ten_rules_where_any_six_do(self):
        text = cases.counting_case(10, 6)
        self.assertEqual(desk.read(rows(text)), [0])
        self.assertEqual(clashes(text), [0] + cases.sets_of_size(6, 10))

    def test_answers_are_ints(self):
        self.assertEqual({type(each) for each in clashes("rule a: => ~a\n")}, {int})


class LeastClashWithin(unittest.TestCase):
    def test_over_many_cases(self):
        chance = random.Random(12)
        seen = 0
        for i in range(120):
            text = cases.some_case(chance, most_rules=6)
            least = clashes(text)[1:]
            seen += len(least) > 1
            for chosen in range(2 ** desk.count(1, rows(text))[1]):
                has_one = any(each & chosen == each for each in least)
                self.assertEqual(clash(chosen, text), [0, int(has_one)], text)
        self.assertGreater(seen, 30)

    def test_no_least_clash_has_another_within(self):
        chance = random.Random(13)
        for i in range(120):
            text = cases.some_case(chance, most_rules=8)
            least = clashes(text)[1:]
            self.assertEqual(least, sorted(set(least)), text)
            for one, other in itertools.permutations(least, 2):
                self.assertNotEqual(one & other, one, text)


if __name__ == "__main__":
    unittest.main()
