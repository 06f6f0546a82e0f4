"""Numbers: of laws, rules and atoms in their names' order, of literals, and of sets of rules."""

LAWS = 0
RULES = 1
ATOMS = 2


# The laws and rules of a case that has been read stand in their names' order already.
def names_in_order(case, what):
    if what == LAWS:
        return [law.name for law in case.laws]
    if what == RULES:
        return [rule.name for rule in case.rules]
    return sorted(case.atoms)


def atom_numbers(case):
    numbers = {}
    for number, name in enumerate(names_in_order(case, ATOMS)):
        numbers[name] = number
    return numbers


def literal_numbers(case, literals):
    numbers = atom_numbers(case)
    return sorted([2 * numbers[literal[0]] + literal[1] for literal in literals])


def is_rule(case, i):
    return i < len(case.rules)


# A set of rules is a number that has bit i for rule i.
def number_of_sets(case):
    return 1 << len(case.rules)


def is_set_of_rules(case, chosen):
    return chosen < number_of_sets(case)


def has_rule(chosen, i):
    return (chosen >> i) & 1 == 1


def is_within(chosen, other):
    return chosen & other == chosen


def rules_in(case, chosen):
    return [rule for i, rule in enumerate(case.rules) if has_rule(chosen, i)]


def set_of(numbers):
    return sum([1 << i for i in numbers])


def outweighed_by(case, i):
    over = case.rules[i].name
    return set_of([j for j, rule in enumerate(case.rules) if (over, rule.name) in case.weights])
