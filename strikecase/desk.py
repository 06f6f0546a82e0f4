"""The calls. Each answers a list: 0 and what is told, or a refusal's number below 0."""

from strikecase.clashing import follows_from, least_clashes, set_clashes
from strikecase.form import one_form
from strikecase.numbering import ATOMS, is_rule, is_set_of_rules, literal_numbers, names_in_order, outweighed_by
from strikecase.pleading import least_weights
from strikecase.reading import NO_CASE, read_text
from strikecase.striking import defended_rules, does_strike, is_free, kind_of, strikers_of, strikers_of_all, struck_out
from strikecase.words import parse_literal

DONE = 0
OUT_OF_BOUNDS = -1
NONE_THERE = -3

WEIGHTS = 3


def read(t):
    reading = read_text(t)
    if reading.refusal == NO_CASE:
        return [NO_CASE, reading.kind, reading.place]
    return [reading.refusal]


def print_form(t):
    reading = read_text(t)
    if reading.refusal != DONE:
        return [reading.refusal]
    return [DONE] + one_form(reading.case)


def count(what, t):
    reading = read_text(t)
    if reading.refusal != DONE:
        return [reading.refusal]
    if what <= ATOMS:
        return [DONE, len(names_in_order(reading.case, what))]
    if what == WEIGHTS:
        return [DONE, len(least_weights(reading.case))]
    return [OUT_OF_BOUNDS]


def name(what, i, t):
    reading = read_text(t)
    if reading.refusal != DONE:
        return [reading.refusal]
    if what > ATOMS:
        return [OUT_OF_BOUNDS]
    names = names_in_order(reading.case, what)
    if i >= len(names):
        return [NONE_THERE]
    return [DONE] + list(names[i])


def number(t, literal):
    reading = read_text(t)
    if reading.refusal != DONE:
        return [reading.refusal]
    told = parse_literal(tuple(literal))
    if told is None or told[0] not in reading.case.atoms:
        return [NONE_THERE]
    return [DONE] + literal_numbers(reading.case, [told])


def follows(chosen, t):
    reading = read_text(t)
    if reading.refusal != DONE:
        return [reading.refusal]
    if not is_set_of_rules(reading.case, chosen):
        return [OUT_OF_BOUNDS]
    return [DONE] + literal_numbers(reading.case, follows_from(reading.case, chosen))


def clash(chosen, t):
    reading = read_text(t)
    if reading.refusal != DONE:
        return [reading.refusal]
    if not is_set_of_rules(reading.case, chosen):
        return [OUT_OF_BOUNDS]
    return [DONE, int(set_clashes(reading.case, chosen))]


def clashes(t):
    reading = read_text(t)
    if reading.refusal != DONE:
        return [reading.refusal]
    return [DONE] + least_clashes(reading.case)


def outweighs(i, t):
    reading = read_text(t)
    if reading.refusal != DONE:
        return [reading.refusal]
    if not is_rule(reading.case, i):
        return [OUT_OF_BOUNDS]
    return [DONE, outweighed_by(reading.case, i)]


def strikes(chosen, i, t):
    reading = read_text(t)
    if reading.refusal != DONE:
        return [reading.refusal]
    if not is_set_of_rules(reading.case, chosen) or not is_rule(reading.case, i):
        return [OUT_OF_BOUNDS]
    return [DONE, int(does_strike(chosen, strikers_of(reading.case, i)))]


def strikers(i, t):
    reading = read_text(t)
    if reading.refusal != DONE:
        return [reading.refusal]
    if not is_rule(reading.case, i):
        return [OUT_OF_BOUNDS]
    return [DONE] + strikers_of(reading.case, i)


def struck(on, chosen, t):
    reading = read_text(t)
    if reading.refusal != DONE:
        return [reading.refusal]
    if not is_set_of_rules(reading.case, on) or not is_set_of_rules(reading.case, chosen):
        return [OUT_OF_BOUNDS]
    return [DONE, struck_out(on, chosen, strikers_of_all(reading.case))]


def free(chosen, t):
    reading = read_text(t)
    if reading.refusal != DONE:
        return [reading.refusal]
    if not is_set_of_rules(reading.case, chosen):
        return [OUT_OF_BOUNDS]
    return [DONE, int(is_free(chosen, strikers_of_all(reading.case)))]


def defended(on, chosen, t):
    reading = read_text(t)
    if reading.refusal != DONE:
        return [reading.refusal]
    if not is_set_of_rules(reading.case, on) or not is_set_of_rules(reading.case, chosen):
        return [OUT_OF_BOUNDS]
    return [DONE, defended_rules(on, chosen, strikers_of_all(reading.case))]


def kind(on, chosen, t):
    reading = read_text(t)
    if reading.refusal != DONE:
        return [reading.refusal]
    if not is_set_of_rules(reading.case, on) or not is_set_of_rules(reading.case, chosen):
        return [OUT_OF_BOUNDS]
    return [DONE, kind_of(on, chosen, strikers_of_all(reading.case))]
