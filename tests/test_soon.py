"""Each call ends soon with as many rules, laws and atoms as there can be."""

import time
import unittest

import cases
from strikecase import desk
from texts import lines, rows

# Far more than a call takes, far less than going through all sets for each set would.
SECONDS = 5

OWN = [f"q{i:02}" for i in range(54)]
RULES = [f"rule r{i}: => {OWN[i]}" for i in range(10)]
WEIGHTS = [f"weigh r{i} > r{i + 1}" for i in range(9)]


def law(i, body, head):
    return f"law l{i:02}: {', '.join(body)} -> {head}"


# What follows comes one by one, from the last line to the first, and nothing clashes.
def chained():
    laws = [law(i, OWN[i:i + 6], OWN[i + 6]) for i in range(48)]
    laws += [law(i, OWN[i - 48:i - 42][::-1], OWN[i - 42]) for i in range(48, 64)]
    return lines(*RULES, *laws[::-1], *WEIGHTS)


# As before, but at the chain's end stands a clash: of the first rule with any six rules in a row.
def chained_to_a_clash():
    laws = [law(i, OWN[i:i + 6], OWN[i + 6]) for i in range(48)]
    laws += [law(i, OWN[i - 48:i - 42][::-1], OWN[i - 42]) for i in range(48, 63)]
    return lines(*RULES, law(63, OWN[53:], "~q00"), *laws[::-1], *WEIGHTS)


# As many least clashes as there can be, each five rules.
def many_clashes():
    text = cases.counting_case(10, 5)
    laws = [f"law m{i}: {', '.join(f'z{i}-{j}' for j in range(3))}, r0, r1, r2 -> r3" for i in range(8)]
    return text + lines(*laws)


def calls(t):
    for rule in (0, 9):
        yield lambda: desk.outweighs(rule, t)
        yield lambda: desk.strikers(rule, t)
        yield lambda: desk.strikes(1023 - 2 ** rule, rule, t)
    for chosen in (0, 63, 1023):
        yield lambda: desk.follows(chosen, t)
        yield lambda: desk.clash(chosen, t)
        yield lambda: desk.struck(1023, chosen, t)
        yield lambda: desk.struck(chosen, 1023 - chosen, t)
        yield lambda: desk.free(chosen, t)
        yield lambda: desk.defended(1023, chosen, t)
        yield lambda: desk.defended(chosen, 1023 - chosen, t)
        yield lambda: desk.kind(1023, chosen, t)
    for what in range(4):
        yield lambda: desk.count(what, t)
    for what in range(3):
        yield lambda: desk.name(what, 9, t)
    yield lambda: desk.read(t)
    yield lambda: desk.print_form(t)
    yield lambda: desk.number(t, rows("~r9"))
    yield lambda: desk.clashes(t)


class Soon(unittest.TestCase):
    def soon(self, text):
        t = rows(text)
        self.assertEqual([desk.count(what, t) for what in range(3)], [[0, 64], [0, 10], [0, 64]])
        for call in calls(t):
            before = time.monotonic()
            self.assertEqual(call()[0], 0)
            self.assertLess(time.monotonic() - before, SECONDS)

    def test_a_chain_from_behind(self):
        self.assertEqual(desk.clashes(rows(chained())), [0])
        self.soon(chained())

    def test_a_chain_to_a_clash(self):
        self.assertEqual(desk.clashes(rows(chained_to_a_clash())), [0, 63, 253, 505, 1009])
        self.soon(chained_to_a_clash())

    def test_many_clashes(self):
        self.assertEqual(desk.clashes(rows(many_clashes())), [0] + cases.sets_of_size(5, 10))
        self.soon(many_clashes())


if __name__ == "__main__":
    unittest.main()
