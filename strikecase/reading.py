"""Reading a text: the case that it tells, or its first fault."""

from strikecase.lines import LAW_ARROW, LAW_WORD, RULE_ARROW, RULE_WORD, WEIGH_WORD, parse_clause, parse_weight
from strikecase.pleading import Case, add_law, add_rule, add_weight, has_opposites, literal_atoms
from strikecase.pleading import outweighs_itself_with, put_in_order, rule_atoms, what_follows
from strikecase.words import BLANK, LINE_FEED, spell, split_at

MOST_BYTES = 8192
MOST_LAWS = 64
MOST_RULES = 10
MOST_ATOMS = 64

TOO_LONG = -1
NO_CASE = -6

NO_FAULT = 0
NOT_A_LINE = 1
NAME_TAKEN = 2
TOLD_TWICE = 3
TOO_MANY = 4
NO_RULE = 5
OUTWEIGHS_ITSELF = 6
LAWS_CLASH = 7


# refusal is 0 where case is the case told; kind and place are a fault's where refusal is NO_CASE.
class Reading:
    def __init__(self, refusal, case, kind, place):
        self.refusal = refusal
        self.case = case
        self.kind = kind
        self.place = place


def name_is_taken(case, name):
    return any([clause.name == name for clause in case.laws + case.rules])


def same_clause_among(peers, clause):
    return any([peer.body == clause.body and peer.head == clause.head for peer in peers])


def too_many_atoms(case, names):
    return len(set(list(case.atoms) + names)) > MOST_ATOMS


# What laws and rules have in common, in the order in which reasons are told: kinds 2 to 4.
def clause_fault(case, clause, peers, most, names):
    if name_is_taken(case, clause.name):
        return NAME_TAKEN
    if len(set(clause.body)) < len(clause.body) or same_clause_among(peers, clause):
        return TOLD_TWICE
    if len(peers) >= most or too_many_atoms(case, names):
        return TOO_MANY
    return NO_FAULT


def law_fault(case, law):
    if law is None:
        return NOT_A_LINE
    kind = clause_fault(case, law, case.laws, MOST_LAWS, literal_atoms(law))
    if kind == NO_FAULT and has_opposites(what_follows(case.laws + [law])):
        return LAWS_CLASH
    return kind


def rule_fault(case, rule):
    if rule is None:
        return NOT_A_LINE
    return clause_fault(case, rule, case.rules, MOST_RULES, rule_atoms(rule))


def weight_fault(case, pair):
    if pair is None:
        return NOT_A_LINE
    names = [rule.name for rule in case.rules]
    if pair[0] not in names or pair[1] not in names:
        return NO_RULE
    if outweighs_itself_with(case, pair[0], pair[1]):
        return OUTWEIGHS_ITSELF
    return NO_FAULT


def take_law(case, words):
    law = parse_clause(words, LAW_ARROW)
    kind = law_fault(case, law)
    if kind == NO_FAULT:
        add_law(case, law)
    return kind


def take_rule(case, words):
    rule = parse_clause(words, RULE_ARROW)
    kind = rule_fault(case, rule)
    if kind == NO_FAULT:
        add_rule(case, rule)
    return kind


def take_weight(case, words):
    pair = parse_weight(words)
    kind = weight_fault(case, pair)
    if kind == NO_FAULT:
        add_weight(case, pair[0], pair[1])
    return kind


# A good line is added to the case; the answer is the kind of its fault.
def take_line(case, line):
    words = split_at(line, BLANK)
    if words[0] == spell(LAW_WORD):
        return take_law(case, words)
    if words[0] == spell(RULE_WORD):
        return take_rule(case, words)
    if words[0] == spell(WEIGH_WORD):
        return take_weight(case, words)
    return NOT_A_LINE


# Behind the last line feed there is nothing, unless the text ends within a line. That line is the
# last, so its fault is told only where the lines before it have none; its place is the text's end.
def read_text(t):
    if len(t) > MOST_BYTES:
        return Reading(TOO_LONG, None, NO_FAULT, 0)
    lines = split_at(t, LINE_FEED)
    case = Case()
    place = 0
    for line in lines[:-1]:
        kind = take_line(case, line)
        if kind != NO_FAULT:
            return Reading(NO_CASE, None, kind, place)
        place += len(line) + 1
    if len(lines[-1]) > 0:
        return Reading(NO_CASE, None, NOT_A_LINE, len(t))
    put_in_order(case)
    return Reading(0, case, NO_FAULT, 0)
