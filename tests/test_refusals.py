"""The refusals and their order; what is handed in, and what is kept."""

import unittest

from strikecase import desk
from texts import lines, rows

# The calls, by what the text is handed to.
CALLS = (
    desk.read,
    desk.print_form,
    lambda t: desk.count(0, t),
    lambda t: desk.count(3, t),
    lambda t: desk.count(4, t),
    lambda t: desk.count(4294967295, t),
    lambda t: desk.name(0, 0, t),
    lambda t: desk.name(1, 1, t),
    lambda t: desk.name(2, 64, t),
    lambda t: desk.name(3, 0, t),
    lambda t: desk.name(4294967295, 4294967295, t),
    lambda t: desk.number(t, rows("q")),
    lambda t: desk.number(t, rows("~p")),
    lambda t: desk.number(t, []),
    lambda t: desk.number(t, [97] * 8300),
    lambda t: desk.follows(0, t),
    lambda t: desk.follows(3, t),
    lambda t: desk.follows(4294967295, t),
    lambda t: desk.clash(0, t),
    lambda t: desk.clash(3, t),
    lambda t: desk.clash(4294967295, t),
    desk.clashes,
    lambda t: desk.outweighs(0, t),
    lambda t: desk.outweighs(1, t),
    lambda t: desk.outweighs(4294967295, t),
    lambda t: desk.strikes(0, 0, t),
    lambda t: desk.strikes(1, 1, t),
    lambda t: desk.strikes(4294967295, 0, t),
    lambda t: desk.strikes(0, 4294967295, t),
    lambda t: desk.strikers(0, t),
    lambda t: desk.strikers(1, t),
    lambda t: desk.strikers(4294967295, t),
    lambda t: desk.struck(0, 0, t),
    lambda t: desk.struck(3, 1, t),
    lambda t: desk.struck(4294967295, 1, t),
    lambda t: desk.struck(1, 4294967295, t),
    lambda t: desk.free(0, t),
    lambda t: desk.free(3, t),
    lambda t: desk.free(4294967295, t),
    lambda t: desk.defended(0, 0, t),
    lambda t: desk.defended(3, 1, t),
    lambda t: desk.defended(4294967295, 1, t),
    lambda t: desk.defended(1, 4294967295, t),
    lambda t: desk.kind(0, 0, t),
    lambda t: desk.kind(3, 1, t),
    lambda t: desk.kind(4294967295, 1, t),
    lambda t: desk.kind(1, 4294967295, t),
)


# A case of just so many bytes: weights that are told again and again, the last name as long as is left.
def case_of(size):
    rules = lines("rule a: => p", "rule b: => p1")
    weights = "weigh a > b\n" * ((size - len(rules)) // 12 - 4)
    left = size - len(rules) - len(weights)
    filler = ""
    for number in range(3):
        share = left // 3 if number < 2 else left - len(filler)
        filler += law_of(share, number)
    return rules + weights + filler


def law_of(size, number):
    law = f"law l{number}: -> q{number}\n"
    return f"law l{number}{'x' * (size - len(law))}: -> q{number}\n"


class Refusals(unittest.TestCase):
    def test_8192_bytes_are_read(self):
        text = case_of(8192)
        self.assertEqual(len(text), 8192)
        self.assertEqual(desk.read(rows(text)), [0])
        self.assertEqual(desk.count(0, rows(text)), [0, 3])
        self.assertEqual(desk.print_form(rows(text))[0], 0)

    def test_8193_bytes_are_refused(self):
        for size in (8193, 8194, 8300):
            text = case_of(size)
            self.assertEqual(len(text), size)
            for call in CALLS:
                self.assertEqual(call(rows(text)), [-1])

    def test_too_long_ahead_of_a_fault(self):
        for text in ("x" * 8193, "\n" * 8193, "x\n" * 4150, lines("x") + case_of(8192)):
            for call in CALLS:
                self.assertEqual(call(rows(text)), [-1])

    def test_8192_faulty_bytes(self):
        self.assertEqual(desk.read([120] * 8192), [-6, 1, 8192])
        self.assertEqual(desk.read([120] * 8191 + [10]), [-6, 1, 0])
        self.assertEqual(desk.read([32] * 8191 + [10]), [-6, 1, 0])
        self.assertEqual(desk.read([10] * 8192), [-6, 1, 0])
        text = case_of(8190) + "x\n"
        self.assertEqual(desk.read(rows(text)), [-6, 1, 8190])
        text = case_of(8191) + "x"
        self.assertEqual(desk.read(rows(text)), [-6, 1, 8192])

    # Of read alone kind and place stand behind it.
    def test_no_case_ahead_of_a_call_s_own_refusals(self):
        for text in ("x\n", "law a: -> p", lines("weigh a > b"), case_of(8190) + "x\n", case_of(8191) + "x"):
            for call in CALLS:
                if call != desk.read:
                    self.assertEqual(call(rows(text)), [-6])

    def test_a_call_s_own_refusals_behind_all(self):
        for t in (rows("law a: -> p\n"), rows(case_of(8192))):
            self.assertEqual(desk.count(4, t), [-1])
            self.assertEqual(desk.name(3, 4294967295, t), [-1])
            self.assertEqual(desk.name(0, 4294967295, t), [-3])
            self.assertEqual(desk.number(t, rows("none")), [-3])
            self.assertEqual(desk.follows(4, t), [-1])
            self.assertEqual(desk.clash(4, t), [-1])
            self.assertEqual(desk.outweighs(2, t), [-1])
            self.assertEqual(desk.strikes(4, 0, t), [-1])
            self.assertEqual(desk.strikes(0, 2, t), [-1])
            self.assertEqual(desk.strikers(2, t), [-1])
            self.assertEqual(desk.struck(4, 0, t), [-1])
            self.assertEqual(desk.struck(0, 4, t), [-1])
            self.assertEqual(desk.free(4, t), [-1])
            self.assertEqual(desk.defended(4, 0, t), [-1])
            self.assertEqual(desk.defended(0, 4, t), [-1])
            self.assertEqual(desk.kind(4, 0, t), [-1])
            self.assertEqual(desk.kind(0, 4, t), [-1])


# A list that can't be changed, not for a while either.
class Fixed(list):
    def refuse(self, *given):
        raise AssertionError("what was handed in is changed")

    append = clear = extend = insert = pop = remove = reverse = sort = refuse
    __setitem__ = __delitem__ = __iadd__ = __imul__ = refuse


class NothingKept(unittest.TestCase):
    TEXTS = (
        "",
        "x\n",
        "law a: -> p",
        lines("rule b: => q", "law a: -> p", "rule c: => r", "weigh c > b"),
        lines("law a: -> p", "law b: -> ~p"),
        lines("rule b: => q", "rule a: => ~q", "law l: q -> p", "weigh b > a"),
        lines("rule a: => ~a", "rule b: => ~p", "rule c: => p"),
        "x" * 8193,
    )

    def test_what_is_handed_in_stays(self):
        for text in self.TEXTS:
            for call in CALLS:
                t = rows(text)
                call(t)
                self.assertEqual(t, rows(text))

    def test_what_is_handed_in_is_not_changed_for_a_while(self):
        for text in self.TEXTS:
            for call in CALLS:
                self.assertEqual(call(Fixed(rows(text))), call(rows(text)))
            self.assertEqual(desk.number(rows(text), Fixed(rows("~p"))), desk.number(rows(text), rows("~p")))

    def test_answers_are_lists_of_int(self):
        for text in self.TEXTS:
            for call in CALLS:
                answer = call(rows(text))
                self.assertIs(type(answer), list)
                self.assertEqual({type(each) for each in answer}, {int})

    def test_the_same_again(self):
        first = [[call(rows(text)) for call in CALLS] for text in self.TEXTS]
        second = [[call(rows(text)) for call in CALLS] for text in self.TEXTS]
        backwards = [[call(rows(text)) for call in CALLS[::-1]][::-1] for text in self.TEXTS[::-1]][::-1]
        self.assertEqual(first, second)
        self.assertEqual(first, backwards)

    def test_the_same_list_twice(self):
        for text in self.TEXTS:
            t = rows(text)
            for call in CALLS:
                self.assertEqual(call(t), call(t))

    def test_a_changed_answer_changes_no_other(self):
        for text in self.TEXTS:
            for call in CALLS:
                answer = call(rows(text))
                kept = list(answer)
                answer.clear()
                self.assertEqual(call(rows(text)), kept)


if __name__ == "__main__":
    unittest.main()
