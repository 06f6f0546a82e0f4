"""print_form: the one form, whatever the order of lines."""

import itertools
import unittest

from texts import lines, print_form, printed, read

RULES = ["rule a: => p", "rule b: => q", "rule c: => r", "rule d: => s"]


class OneForm(unittest.TestCase):
    def form(self, text, form):
        self.assertEqual(printed(text), form)
        self.assertEqual(read(form), [0])
        self.assertEqual(printed(form), form)

    def test_empty_case(self):
        self.assertEqual(print_form(""), [0])

    def test_answer_is_0_and_the_bytes(self):
        self.assertEqual(print_form("law a: -> p\n"),
                         [0, 108, 97, 119, 32, 97, 58, 32, 45, 62, 32, 112, 10])
        self.assertEqual({type(each) for each in print_form("law a: -> p\n")}, {int})

    def test_lines_as_they_stand(self):
        text = lines("law a: -> p", "law b: p -> q", "law c: ~p, q -> ~r", "law d: p, q, r, s, t, ~u -> v",
                     "rule e: => p", "rule f: ~p => ~q", "rule g: p, ~q, r, s, t, u => w", "weigh e > f")
        self.form(text, text)

    def test_the_body_keeps_its_order(self):
        text = lines("law a: z, y, ~b, b -> p", "rule b: q, a => ~p")
        self.form(text, text)

    def test_laws_then_rules_in_their_names_order(self):
        self.form(lines("rule b: => p", "law z: -> q", "rule a: => r", "law c: -> s"),
                  lines("law c: -> s", "law z: -> q", "rule a: => r", "rule b: => p"))

    def test_names_in_order_by_bytes_a_beginning_first(self):
        names = ["a", "a-", "a-z", "a0", "a1", "a10", "a9", "aa", "ab", "b", "b-", "ba"]
        laws = [f"law {name}: -> {name}" for name in names]
        rules = [f"rule {name}x: => {name}" for name in ("a", "a-", "a0", "aa", "b")]
        ordered = sorted(rules, key=lambda line: line[5:line.index(":")].encode())
        self.form(lines(*laws[::-1], *rules), lines(*laws, *ordered))
        self.form(lines(*rules[::-1], *laws[::2], *laws[1::2]), lines(*laws, *ordered))

    def test_every_order_of_lines(self):
        each = ["law b: p -> q", "law a: -> p", "rule d: q => ~r", "rule c: => r", "rule ca: => s"]
        form = lines("law a: -> p", "law b: p -> q", "rule c: => r", "rule ca: => s", "rule d: q => ~r",
                     "weigh d > c")
        for order in itertools.permutations(each):
            self.assertEqual(printed(lines(*order, "weigh d > c")), form)

    def weights(self, told, kept):
        for order in itertools.permutations(told):
            self.assertEqual(printed(lines(*RULES, *order)), lines(*RULES, *kept))

    def test_weights_in_order(self):
        self.weights(["weigh d > a", "weigh a > c", "weigh b > c", "weigh d > b"],
                     ["weigh a > c", "weigh b > c", "weigh d > a", "weigh d > b"])

    def test_a_third_rule_between(self):
        self.weights(["weigh a > b", "weigh b > c", "weigh a > c"], ["weigh a > b", "weigh b > c"])
        self.weights(["weigh d > c", "weigh c > a", "weigh d > a"], ["weigh c > a", "weigh d > c"])

    def test_several_rules_between(self):
        self.weights(["weigh a > b", "weigh b > c", "weigh c > d", "weigh a > d"],
                     ["weigh a > b", "weigh b > c", "weigh c > d"])
        self.weights(["weigh a > b", "weigh a > c", "weigh b > d", "weigh c > d", "weigh a > d"],
                     ["weigh a > b", "weigh a > c", "weigh b > d", "weigh c > d"])

    def test_told_again(self):
        self.weights(["weigh a > b", "weigh a > b", "weigh c > d", "weigh a > b"], ["weigh a > b", "weigh c > d"])

    def test_whole_order_of_ten(self):
        rules = [f"rule r{i}: => p{i}" for i in range(10)]
        pairs = [f"weigh r{j} > r{i}" for i in range(10) for j in range(i + 1, 10)]
        kept = [f"weigh r{i + 1} > r{i}" for i in range(9)]
        self.form(lines(*rules, *pairs), lines(*rules, *kept))

    def test_weight_names_in_order_by_bytes(self):
        rules = ["rule a: => p", "rule a-: => q", "rule a0: => r", "rule aa: => s"]
        self.form(lines(*rules, "weigh aa > a0", "weigh aa > a-", "weigh a- > a", "weigh a0 > a"),
                  lines(*rules, "weigh a- > a", "weigh a0 > a", "weigh aa > a-", "weigh aa > a0"))

    def test_faulty_texts_are_refused(self):
        for text in ("x\n", "law a: -> p", "\n", lines("law a: -> p", "law b: -> ~p"), lines("weigh a > b")):
            self.assertEqual(print_form(text), [-6])


if __name__ == "__main__":
    unittest.main()
