"""What the tests share: texts as the lists of bytes that the calls take."""

from strikecase import desk


def rows(text):
    return list(text.encode("latin-1"))


def lines(*each):
    return "".join(line + "\n" for line in each)


def read(text):
    return desk.read(rows(text))


def print_form(text):
    return desk.print_form(rows(text))


def count(what, text):
    return desk.count(what, rows(text))


def name(what, i, text):
    return desk.name(what, i, rows(text))


def number(text, literal):
    return desk.number(rows(text), rows(literal))


def follows(chosen, text):
    return desk.follows(chosen, rows(text))


def clash(chosen, text):
    return desk.clash(chosen, rows(text))


def clashes(text):
    return desk.clashes(rows(text))


def outweighs(i, text):
    return desk.outweighs(i, rows(text))


def strikes(chosen, i, text):
    return desk.strikes(chosen, i, rows(text))


def strikers(i, text):
    return desk.strikers(i, rows(text))


def struck(on, chosen, text):
    return desk.struck(on, chosen, rows(text))


def free(chosen, text):
    return desk.free(chosen, rows(text))


def defended(on, chosen, text):
    return desk.defended(on, chosen, rows(text))


def kind(on, chosen, text):
    return desk.kind(on, chosen, rows(text))


# What follows, by its literals' words in the place of their numbers.
def words_that_follow(chosen, text):
    answer = follows(chosen, text)
    if answer[0] != 0:
        raise AssertionError(f"refused: {answer}")
    return " ".join("~" * (each % 2) + named(2, each // 2, text) for each in answer[1:])


def named(what, i, text):
    answer = name(what, i, text)
    if answer[0] != 0:
        raise AssertionError(f"refused: {answer}")
    return bytes(answer[1:]).decode("latin-1")


def rule_number(rule, text):
    return [named(1, i, text) for i in range(count(1, text)[1])].index(rule)


# A set of rules, by their names.
def set_of(names, text):
    return sum(2 ** rule_number(each, text) for each in names.split())


def printed(text):
    answer = print_form(text)
    if answer[0] != 0:
        raise AssertionError(f"refused: {answer}")
    return bytes(answer[1:]).decode("latin-1")


def atoms(number, first="p"):
    return [f"{first}{i}" for i in range(number)]
