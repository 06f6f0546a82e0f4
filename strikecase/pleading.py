"""A case: its laws, its rules, what outweighs what, and what follows from its clauses."""


class Clause:
    def __init__(self, name, body, head):
        self.name = name
        self.body = body
        self.head = head


# atoms and weights are dicts of True. weights has every pair of names (x, y) where x outweighs y,
# those that follow by going on too, so that asking needs no search.
class Case:
    def __init__(self):
        self.laws = []
        self.rules = []
        self.atoms = {}
        self.weights = {}


def literal_atoms(clause):
    return [literal[0] for literal in clause.body] + [clause.head[0]]


# A rule's name is an atom, for it follows wherever the rule is held; a law's name is none.
def rule_atoms(rule):
    return literal_atoms(rule) + [rule.name]


def add_atoms(case, names):
    for name in names:
        case.atoms[name] = True


def add_law(case, law):
    case.laws.append(law)
    add_atoms(case, literal_atoms(law))


def add_rule(case, rule):
    case.rules.append(rule)
    add_atoms(case, rule_atoms(rule))


def add_weight(case, over, under):
    overs = [over] + [pair[0] for pair in case.weights if pair[1] == over]
    unders = [under] + [pair[1] for pair in case.weights if pair[0] == under]
    for first in overs:
        for second in unders:
            case.weights[(first, second)] = True


def outweighs_itself_with(case, over, under):
    return over == under or (under, over) in case.weights


# A clause's place is its number from then on.
def put_in_order(case):
    case.laws = sorted(case.laws, key=lambda law: law.name)
    case.rules = sorted(case.rules, key=lambda rule: rule.name)


def stands_between(case, middle, pair):
    return (pair[0], middle) in case.weights and (middle, pair[1]) in case.weights


# Whoever stands between two rules is a rule itself, so no other name is asked.
def least_weights(case):
    kept = []
    for pair in sorted(case.weights):
        if not any([stands_between(case, rule.name, pair) for rule in case.rules]):
            kept.append(pair)
    return kept


# Which clauses, by their places in the list, have which literal in their body.
def places_by_literal(clauses):
    places = {}
    for place, clause in enumerate(clauses):
        for literal in clause.body:
            places[literal] = places.get(literal, []) + [place]
    return places


# The least set of literals that has the head of each clause all of whose body it has. Each literal
# is gone through once, and a clause's head is taken when none of its body is missing any more, so a
# long chain of clauses costs no more than its length. No body has a literal twice.
def what_follows(clauses):
    places = places_by_literal(clauses)
    missing = [len(clause.body) for clause in clauses]
    coming = [clause.head for clause in clauses if len(clause.body) == 0]
    held = {}
    while len(coming) > 0:
        literal = coming.pop()
        if literal not in held:
            held[literal] = True
            for place in places.get(literal, []):
                missing[place] -= 1
                if missing[place] == 0:
                    coming.append(clauses[place].head)
    return held


def has_opposites(literals):
    return any([(literal[0], 1 - literal[1]) in literals for literal in literals])
