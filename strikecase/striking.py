"""Which sets of rules strike which rules."""

from strikecase.clashing import least_clashes
from strikecase.numbering import has_rule, is_within, outweighed_by, set_of


# A set that doesn't clash, but does with rule i, has with i a least clash within, and i is in that. So
# the least of these sets of whose rules i outweighs none are what such least clashes leave without i.
def strikers_from(least, case, i):
    lesser = outweighed_by(case, i)
    return [clash - set_of([i]) for clash in least if has_rule(clash, i) and clash & lesser == 0]


def strikers_of(case, i):
    return strikers_from(least_clashes(case), case, i)


# The strikers of each rule, in the order of their numbers.
def strikers_of_all(case):
    least = least_clashes(case)
    return [strikers_from(least, case, i) for i in range(len(case.rules))]


# What strikes a rule has a striker within, and what has one within strikes it.
def does_strike(chosen, strikers):
    return any([is_within(striker, chosen) for striker in strikers])


def struck_out(on, chosen, of_all):
    return set_of([i for i, strikers in enumerate(of_all) if has_rule(on, i) and does_strike(chosen, strikers)])
