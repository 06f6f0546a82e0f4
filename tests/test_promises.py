"""Points 1, 4 and 5 over many cases, by the calls alone.

Point 1 for long texts and their faults is in test_against_model.py, point 2 in test_follows.py and
test_clashes.py, point 3 in test_strikers.py.
"""

import random
import unittest

import cases
from strikecase import desk
from texts import rows


def within(chosen, other):
    return chosen & other == chosen


def all_sets(t):
    return range(2 ** desk.count(1, t)[1])


def bits(chosen):
    return [i for i in range(10) if chosen & 2 ** i]


# What every call answers, of every number and every set that the case has.
def all_answers(t):
    laws, rules, atoms, weights = [desk.count(what, t)[1] for what in range(4)]
    sets = all_sets(t)
    told = [laws, rules, atoms, weights, desk.read(t), desk.print_form(t), desk.clashes(t)]
    for what, number in enumerate((laws, rules, atoms)):
        told.append([desk.name(what, i, t) for i in range(number + 1)])
    for i in range(atoms):
        name = desk.name(2, i, t)[1:]
        told.append([desk.number(t, name), desk.number(t, [126] + name)])
    for i in range(rules + 1):
        told.append([desk.outweighs(i, t), desk.strikers(i, t)] + [desk.strikes(each, i, t) for each in sets])
    for each in sets:
        told.append([desk.follows(each, t), desk.clash(each, t), desk.free(each, t)])
        for on in sets:
            told.append([desk.struck(on, each, t), desk.defended(on, each, t), desk.kind(on, each, t)])
    return told


class PointOne(unittest.TestCase):
    def test_the_one_form_tells_the_same_at_every_call(self):
        chance = random.Random(41)
        for i in range(25):
            t = rows(cases.some_case(chance, most_rules=3))
            self.assertEqual(all_answers(desk.print_form(t)[1:]), all_answers(t), bytes(t))

    # Rules go ahead of weights: the other way round would be a fault.
    def test_the_order_of_lines_does_not_matter_at_any_call(self):
        chance = random.Random(42)
        for i in range(25):
            text = cases.some_case(chance, most_rules=3)
            moved = text.splitlines(keepends=True)
            chance.shuffle(moved)
            moved = "".join(sorted(moved, key=lambda line: line.startswith("weigh")))
            self.assertEqual(all_answers(rows(moved)), all_answers(rows(text)), text)


class PointFour(unittest.TestCase):
    def test_free_is_what_does_not_clash(self):
        chance = random.Random(43)
        clashing = 0
        for i in range(80):
            t = rows(cases.some_case(chance, most_rules=5))
            for chosen in all_sets(t):
                self.assertEqual(desk.free(chosen, t), [0, 1 - desk.clash(chosen, t)[1]], bytes(t))
                clashing += desk.clash(chosen, t)[1]
        self.assertGreater(clashing, 200)

    def test_whatever_outweighs_what(self):
        chance = random.Random(44)
        for i in range(40):
            text = cases.some_case(chance, most_rules=5)
            clauses = [line for line in text.splitlines(keepends=True) if not line.startswith("weigh")]
            names = [line.split()[1][:-1] for line in clauses if line.startswith("rule")]
            chance.shuffle(names)
            row = [f"weigh {one} > {other}\n" for one, other in zip(names, names[1:])]
            bare, weighed = rows("".join(clauses)), rows("".join(clauses + row))
            self.assertEqual(desk.read(weighed), [0])
            for chosen in all_sets(bare):
                answers = [desk.free(chosen, t) for t in (rows(text), bare, weighed)]
                self.assertEqual(answers, [[0, 1 - desk.clash(chosen, bare)[1]]] * 3, text)


class PointFive(unittest.TestCase):
    def each(self, seed, number):
        chance = random.Random(seed)
        for i in range(number):
            t = rows(cases.some_case(chance, most_rules=4))
            for on in all_sets(t):
                yield t, on

    # By the document's words for it: every set within on that strikes the rule has a rule that S strikes.
    def test_what_defends_means(self):
        for t, on in self.each(45, 25):
            threats = {i: [each for each in all_sets(t) if within(each, on) and desk.strikes(each, i, t)[1]]
                       for i in bits(on)}
            for chosen in all_sets(t):
                struck = desk.struck(on, chosen, t)[1]
                meant = [i for i in bits(on) if all(each & struck for each in threats[i])]
                self.assertEqual(bits(desk.defended(on, chosen, t)[1]), meant, (bytes(t), on, chosen))

    def test_just_if_those_that_are_left_do_not_strike_it(self):
        for t, on in self.each(46, 25):
            for chosen in all_sets(t):
                left = on - desk.struck(on, chosen, t)[1]
                meant = [i for i in bits(on) if desk.strikes(left, i, t) == [0, 0]]
                self.assertEqual(bits(desk.defended(on, chosen, t)[1]), meant, (bytes(t), on, chosen))

    def test_more_defends_more(self):
        for t, on in self.each(47, 40):
            told = [desk.defended(on, chosen, t)[1] for chosen in all_sets(t)]
            for chosen in all_sets(t):
                for more in all_sets(t):
                    if within(chosen, more):
                        self.assertTrue(within(told[chosen], told[more]), (bytes(t), on, chosen, more))

    def test_what_an_admissible_set_defends_can_be_added(self):
        added = 0
        for t, on in self.each(48, 40):
            for chosen in all_sets(t):
                if desk.kind(on, chosen, t)[1] >= 2:
                    for i in bits(desk.defended(on, chosen, t)[1] & ~chosen):
                        self.assertGreaterEqual(desk.kind(on, chosen | 2 ** i, t)[1], 2, (bytes(t), on, chosen, i))
                        added += 1
        self.assertGreater(added, 200)


if __name__ == "__main__":
    unittest.main()
