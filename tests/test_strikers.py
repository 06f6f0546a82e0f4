"""strikers: the least sets that strike a rule; promise 3."""

import itertools
import random
import unittest

import cases
from strikecase import desk
from texts import lines, rows, rule_number, set_of, strikers


class Strikers(unittest.TestCase):
    def told(self, text, rule, *sets):
        self.assertEqual(strikers(rule_number(rule, text), text), [0] + [set_of(names, text) for names in sets], rule)

    def test_none(self):
        self.told("rule a: => p\n", "a")
        self.told(lines("rule a: => p", "rule b: => ~p", "rule c: => q"), "c")
        self.told(lines("rule a: => p", "rule b: => ~p", "weigh a > b"), "a")

    def test_two_rules(self):
        text = lines("rule a: => p", "rule b: => ~p")
        self.told(text, "a", "b")
        self.told(text, "b", "a")

    def test_the_empty_set_alone(self):
        text = lines("rule a: => ~a", "rule b: => a", "rule c: => q", "law l: c -> ~b")
        self.told(text, "a", "")
        self.told(text, "b", "c")
        self.assertEqual(strikers(0, text), [0, 0])

    def test_the_empty_set_alone_whatever_it_outweighs(self):
        text = lines("rule a: => ~a", "rule b: => p", "weigh a > b")
        self.told(text, "a", "")
        self.told(text, "b")

    # b clashes by itself, so that no set with b in it can strike a.
    def test_a_rule_that_clashes_by_itself_strikes_nothing(self):
        text = lines("rule a: => p", "rule b: => ~b", "law l: b -> ~p")
        self.told(text, "a")
        self.told(text, "b", "")

    def test_several_rising(self):
        text = lines("rule a: => p", "rule b: => q", "rule c: => r", "rule d: => ~p", "law l: q, r -> ~p",
                     "rule e: => s", "law m: e, b -> ~p")
        self.told(text, "a", "b c", "d", "b e")
        self.told(text, "d", "a")
        self.told(text, "b", "a c", "a e")

    def test_none_within_another(self):
        text = lines("rule a: => p", "rule b: => ~p", "rule c: => q", "law l: b, c -> ~a", "law m: c, d -> ~p", "rule d: => ~q",
                     "law n: b, c, d -> ~a")
        self.told(text, "a", "b")

    def test_those_with_a_rule_that_it_outweighs_are_left_out(self):
        text = lines("rule a: => p", "rule b: => q", "rule c: => r", "rule d: => ~p", "law l: q, r -> ~p")
        self.told(text, "a", "b c", "d")
        self.told(text + lines("weigh a > b"), "a", "d")
        self.told(text + lines("weigh a > c"), "a", "d")
        self.told(text + lines("weigh a > d"), "a", "b c")
        self.told(text + lines("weigh a > d", "weigh d > b"), "a")
        self.told(text + lines("weigh d > a", "weigh b > a", "weigh c > a"), "a", "b c", "d")

    # A bigger set than the one that is left out does not take its place: that has the rule in it too.
    def test_nothing_takes_the_place_of_what_is_left_out(self):
        text = lines("rule a: => p", "rule b: => ~p", "rule c: => q", "law l: b, c -> ~p", "weigh a > b")
        self.told(text, "a")

    def test_ten_rules_where_any_six_clash(self):
        text = cases.counting_case(10, 6)
        self.assertEqual(strikers(9, text), [0] + cases.sets_of_size(5, 9))
        self.assertEqual(strikers(0, text), [0] + [2 * each for each in cases.sets_of_size(5, 9)])
        text += lines("weigh r9 > r8")
        self.assertEqual(strikers(9, text), [0] + cases.sets_of_size(5, 8))
        self.assertEqual(strikers(8, text), [0] + [each % 256 + each // 256 * 512 for each in cases.sets_of_size(5, 9)])

    def test_numbers_that_are_no_rule_s(self):
        text = lines("rule a: => p", "rule b: => ~p")
        for i in (2, 3, 10, 32, 4294967295):
            self.assertEqual(strikers(i, text), [-1])
        for i in (0, 1, 4294967295):
            self.assertEqual(strikers(i, ""), [-1])
            self.assertEqual(strikers(i, "law a: -> p\n"), [-1])

    def test_answers_are_ints(self):
        for i in (0, 1):
            self.assertEqual({type(each) for each in strikers(i, "rule a: => ~a\n")}, {int})


class PromiseThree(unittest.TestCase):
    def each(self, seed, number, most_rules):
        chance = random.Random(seed)
        for i in range(number):
            text = cases.some_case(chance, most_rules)
            for rule in range(desk.count(1, rows(text))[1]):
                yield text, rows(text), rule

    def test_strikers_beside_the_least_clashes(self):
        seen = 0
        for text, t, i in self.each(14, 100, 7):
            lesser = desk.outweighs(i, t)[1]
            left = [each - 2 ** i for each in desk.clashes(t)[1:] if each & 2 ** i and not each & lesser]
            self.assertEqual(desk.strikers(i, t), [0] + left, text)
            seen += len(left) > 1
        self.assertGreater(seen, 30)

    def test_what_strikes_has_a_striker_within(self):
        for text, t, i in self.each(15, 60, 5):
            least = desk.strikers(i, t)[1:]
            for chosen in range(2 ** desk.count(1, t)[1]):
                has_one = any(each & chosen == each for each in least)
                self.assertEqual(desk.strikes(chosen, i, t), [0, int(has_one)], text)

    def test_no_striker_has_another_within(self):
        for text, t, i in self.each(16, 60, 7):
            for one, other in itertools.permutations(desk.strikers(i, t)[1:], 2):
                self.assertNotEqual(one & other, one, text)

    # A striker by the document's own words: it does not clash, but does with the rule.
    def test_each_striker_strikes_with_all_its_rules(self):
        for text, t, i in self.each(17, 60, 6):
            for each in desk.strikers(i, t)[1:]:
                self.assertEqual(each & 2 ** i, 0, text)
                self.assertEqual(each & desk.outweighs(i, t)[1], 0, text)
                self.assertEqual(desk.clash(each, t), [0, 0], text)
                self.assertEqual(desk.clash(each + 2 ** i, t), [0, 1], text)


if __name__ == "__main__":
    unittest.main()
