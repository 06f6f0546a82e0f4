"""Many made-up texts, the same each time: the program against the model, and promise 1."""

import random
import unittest

import cases
import model
from strikecase import desk


def literal(chance, names):
    return chance.choice(["", "", "~"]) + chance.choice(names)


def clause(chance, word, arrow, names, own):
    body = ", ".join(literal(chance, names) for i in range(chance.choice([0, 0, 1, 1, 2, 2, 3, 6])))
    return f"{word} {chance.choice(own)}:{' ' if body else ''}{body} {arrow} {literal(chance, names)}"


def line(chance, names, laws, rules):
    sort = chance.random()
    if sort < 0.4:
        return clause(chance, "law", "->", names, laws)
    if sort < 0.75:
        return clause(chance, "rule", "=>", names + rules, rules)
    return f"weigh {chance.choice(rules)} > {chance.choice(rules)}"


def some_text(chance):
    names = [f"p{i}" for i in range(chance.choice([3, 8, 80]))]
    laws = [f"l{i}" for i in range(chance.choice([8, 90]))]
    rules = [f"r{i}" for i in range(chance.choice([3, 9, 14]))]
    rows = [line(chance, names, laws, rules) for i in range(chance.choice([1, 3, 8, 20, 90]))]
    return "".join(row + "\n" for row in rows).encode()


# Lines that would be faulty are left out, so that long texts come about that tell a case.
def mended(text):
    good = b""
    for row in text.split(b"\n")[:-1]:
        if model.answers(good + row + b"\n")[0] == [0]:
            good += row + b"\n"
    return good


def damaged(chance, text):
    if not text:
        return b"\n"
    place = chance.randrange(len(text))
    sign = bytes([chance.choice(b" \n:,~->=abz09\r\t\x00\xff")])
    return chance.choice([
        text[:place] + text[place + 1:],
        text[:place] + sign + text[place:],
        text[:place] + sign + text[place + 1:],
        text[:place],
    ])


def answers(text):
    t = list(text)
    return [desk.read(t), desk.print_form(t)] + [desk.count(what, t) for what in range(5)]


class AgainstModel(unittest.TestCase):
    def agree(self, text):
        self.assertEqual(answers(text), model.answers(text), text)

    def test_texts_as_they_come(self):
        chance = random.Random(1)
        for i in range(300):
            self.agree(some_text(chance))

    def test_damaged_texts(self):
        chance = random.Random(2)
        for i in range(60):
            text = mended(some_text(chance))
            self.agree(text)
            for j in range(8):
                self.agree(damaged(chance, text))

    # As they come, many have a faulty line before the one within which they end; mended, none has.
    def test_texts_that_end_within_a_line(self):
        chance = random.Random(5)
        for i in range(150):
            text = some_text(chance)
            self.agree(text[:-1])
            self.agree(text[:chance.randrange(len(text))])
            self.agree(mended(text)[:-1])

    def test_every_kind_comes_about(self):
        chance = random.Random(1)
        kinds = {answer[1] for answer in (desk.read(list(some_text(chance))) for i in range(300)) if answer[0] == -6}
        self.assertLessEqual({2, 3, 5, 6, 7}, kinds)


def some_told(seed, number, most_rules):
    chance = random.Random(seed)
    for i in range(number):
        text = cases.some_case(chance, most_rules).encode()
        yield text, list(text), model.Told(text)


class ToldAgainstModel(unittest.TestCase):
    def test_name(self):
        for text, t, told in some_told(21, 60, 10):
            for what, names in enumerate((sorted(told.laws), told.names, told.atoms)):
                answers = [desk.name(what, i, t) for i in range(len(names) + 1)]
                self.assertEqual(answers, [[0, *each] for each in names] + [[-3]], text)

    def test_number(self):
        for text, t, told in some_told(22, 60, 10):
            for literal in [mark + name for mark in (b"", b"~") for name in told.atoms + sorted(told.laws)]:
                expected = [-3]
                if literal.lstrip(b"~") in told.atoms:
                    expected = [0, model.literal_number(told.atoms, literal)]
                self.assertEqual(desk.number(t, list(literal)), expected, text)

    def test_follows(self):
        for text, t, told in some_told(23, 60, 6):
            for chosen in told.sets:
                self.assertEqual(desk.follows(chosen, t), [0, *told.follows(chosen)], text)
            self.assertEqual(desk.follows(len(told.sets), t), [-1], text)

    def test_clash(self):
        for text, t, told in some_told(24, 60, 6):
            for chosen in told.sets:
                self.assertEqual(desk.clash(chosen, t), [0, 1 if told.clash(chosen) else 0], text)
            self.assertEqual(desk.clash(len(told.sets), t), [-1], text)

    def test_clashes(self):
        for text, t, told in some_told(25, 200, 6):
            self.assertEqual(desk.clashes(t), [0, *told.clashes()], text)

    def test_clashes_of_up_to_ten_rules(self):
        for text, t, told in some_told(26, 15, 10):
            self.assertEqual(desk.clashes(t), [0, *told.clashes()], text)

    def test_outweighs(self):
        for text, t, told in some_told(27, 100, 10):
            for i in range(len(told.names)):
                self.assertEqual(desk.outweighs(i, t), [0, sum(2 ** j for j in told.outweighs(i))], text)
            self.assertEqual(desk.outweighs(len(told.names), t), [-1], text)

    def test_strikes(self):
        for text, t, told in some_told(28, 80, 5):
            for i in range(len(told.names)):
                for chosen in told.sets:
                    self.assertEqual(desk.strikes(chosen, i, t), [0, 1 if told.strikes(chosen, i) else 0], text)
                self.assertEqual(desk.strikes(len(told.sets), i, t), [-1], text)
            self.assertEqual(desk.strikes(0, len(told.names), t), [-1], text)

    def test_strikers(self):
        for text, t, told in some_told(29, 200, 6):
            for i in range(len(told.names)):
                self.assertEqual(desk.strikers(i, t), [0, *told.strikers(i)], text)
            self.assertEqual(desk.strikers(len(told.names), t), [-1], text)

    def test_strikers_of_up_to_ten_rules(self):
        for text, t, told in some_told(30, 10, 10):
            for i in range(len(told.names)):
                self.assertEqual(desk.strikers(i, t), [0, *told.strikers(i)], text)

    def test_struck(self):
        for text, t, told in some_told(31, 60, 4):
            for on in told.sets:
                for chosen in told.sets:
                    self.assertEqual(desk.struck(on, chosen, t), [0, told.struck(on, chosen)], text)
                self.assertEqual(desk.struck(on, len(told.sets), t), [-1], text)
                self.assertEqual(desk.struck(len(told.sets), on, t), [-1], text)

    def test_free(self):
        for text, t, told in some_told(32, 80, 5):
            for chosen in told.sets:
                self.assertEqual(desk.free(chosen, t), [0, 1 if told.free(chosen) else 0], text)
            self.assertEqual(desk.free(len(told.sets), t), [-1], text)

    def test_defended(self):
        for text, t, told in some_told(33, 60, 4):
            for on in told.sets:
                for chosen in told.sets:
                    self.assertEqual(desk.defended(on, chosen, t), [0, told.defended(on, chosen)], text)
                self.assertEqual(desk.defended(on, len(told.sets), t), [-1], text)
                self.assertEqual(desk.defended(len(told.sets), on, t), [-1], text)

    def test_kind(self):
        seen = set()
        for text, t, told in some_told(34, 60, 4):
            for on in told.sets:
                for chosen in told.sets:
                    answer = desk.kind(on, chosen, t)
                    self.assertEqual(answer, [0, told.kind(on, chosen)], text)
                    seen.add(answer[1])
                self.assertEqual(desk.kind(on, len(told.sets), t), [-1], text)
                self.assertEqual(desk.kind(len(told.sets), on, t), [-1], text)
        self.assertEqual(seen, {0, 1, 2, 3})

    # Some sets each, since all pairs of sets of so many rules are too many.
    def test_defended_and_kind_of_up_to_seven_rules(self):
        chance = random.Random(35)
        for text, t, told in some_told(36, 40, 7):
            for i in range(12):
                on, chosen = chance.choice(told.sets) | chance.choice(told.sets), chance.choice(told.sets)
                for each in (chosen, chosen & on):
                    self.assertEqual(desk.struck(on, each, t), [0, told.struck(on, each)], text)
                    self.assertEqual(desk.defended(on, each, t), [0, told.defended(on, each)], text)
                    self.assertEqual(desk.kind(on, each, t), [0, told.kind(on, each)], text)


class PromiseOne(unittest.TestCase):
    def test_the_one_form_tells_the_same_and_prints_so_again(self):
        chance = random.Random(3)
        for i in range(60):
            text = mended(some_text(chance))
            form = bytes(desk.print_form(list(text))[1:])
            self.assertEqual(answers(form), answers(text))
            self.assertEqual(model.read_case(form), model.read_case(text))

    # Rules go ahead of weights: the other way round would be a fault.
    def test_the_order_of_lines_does_not_matter(self):
        chance = random.Random(4)
        for i in range(60):
            text = mended(some_text(chance))
            rows = text.splitlines(keepends=True)
            chance.shuffle(rows)
            moved = b"".join(sorted(rows, key=lambda row: row.startswith(b"weigh")))
            self.assertEqual(answers(moved), answers(text))


if __name__ == "__main__":
    unittest.main()
