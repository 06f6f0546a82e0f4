"""Which sets of rules strike which rules, what they defend, and of what kind they are."""

from strikecase.clashing import least_clashes
from strikecase.numbering import has_rule, is_within, outweighed_by, set_of

NOT_FREE = 0
FREE = 1
ADMISSIBLE = 2
COMPLETE = 3


# A set that doesn't clash, but does with rule i, has with i a least clash within, and i is in that. So
# the least of these sets of whose rules i outweighs none are what such least clashes leave without i.
def strikers_from(least, case, i):
    lesser = outweighed_by(case, i)
    return [clash - set_of([i]) for clash in least if has_rule(clash, i) and clash & lesser == 0]


def strikers_of(case, i):
    return strikers_from(least_clashes(case), case, i)


# The strikers of each rule, in the order of their numbers.
def strikers_of_all(case):
    least = least_clashes(case)
    return [strikers_from(least, case, i) for i in range(len(case.rules))]


# What strikes a rule has a striker within, and what has one within strikes it.
def does_strike(chosen, strikers):
    return any([is_within(striker, chosen) for striker in strikers])


def struck_out(on, chosen, of_all):
    return set_of([i for i, strikers in enumerate(of_all) if has_rule(on, i) and does_strike(chosen, strikers)])


def is_free(chosen, of_all):
    return struck_out(chosen, chosen, of_all) == 0


# A set within on that has no rule that chosen strikes is within what chosen leaves of on; and where
# such a set strikes a rule, all that is left strikes it too. So only that one set is asked.
def defended_rules(on, chosen, of_all):
    left = on - struck_out(on, chosen, of_all)
    return on - struck_out(on, left, of_all)


def kind_of(on, chosen, of_all):
    if not is_within(chosen, on) or not is_free(chosen, of_all):
        return NOT_FREE
    defended = defended_rules(on, chosen, of_all)
    if not is_within(chosen, defended):
        return FREE
    if not is_within(defended, chosen):
        return ADMISSIBLE
    return COMPLETE
