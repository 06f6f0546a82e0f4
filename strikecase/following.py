"""What follows from a set of rules of a case."""

from strikecase.numbering import rules_in
from strikecase.pleading import Clause, what_follows


# That a rule is in the set makes its name follow; a clause of that head without a body says so.
def clauses_with(case, chosen):
    clauses = list(case.laws)
    for rule in rules_in(case, chosen):
        clauses.append(rule)
        clauses.append(Clause(rule.name, (), (rule.name, 0)))
    return clauses


def follows_from(case, chosen):
    return what_follows(clauses_with(case, chosen))
