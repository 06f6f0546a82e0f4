"""What follows from a set of rules of a case, and which sets clash."""

from strikecase.numbering import is_within, number_of_sets, rules_in
from strikecase.pleading import Clause, has_opposites, what_follows


# That a rule is in the set makes its name follow; a clause of that head without a body says so.
def clauses_with(case, chosen):
    clauses = list(case.laws)
    for rule in rules_in(case, chosen):
        clauses.append(rule)
        clauses.append(Clause(rule.name, (), (rule.name, 0)))
    return clauses


def follows_from(case, chosen):
    return what_follows(clauses_with(case, chosen))


def set_clashes(case, chosen):
    return has_opposites(follows_from(case, chosen))


# Rising, a set comes behind all that are within it: where none of the least clashes so far is
# within it, it is one itself if it clashes.
def least_clashes(case):
    least = []
    for chosen in range(number_of_sets(case)):
        if not any([is_within(clash, chosen) for clash in least]) and set_clashes(case, chosen):
            least.append(chosen)
    return least
