"""The one form of a case."""

from strikecase.lines import LAW_ARROW, LAW_WORD, RULE_ARROW, RULE_WORD, spell_clause, spell_weight
from strikecase.pleading import least_weights
from strikecase.words import LINE_FEED


def one_form(case):
    lines = [spell_clause(LAW_WORD, law, LAW_ARROW) for law in case.laws]
    lines.extend([spell_clause(RULE_WORD, rule, RULE_ARROW) for rule in case.rules])
    lines.extend([spell_weight(pair) for pair in least_weights(case)])
    row = []
    for line in lines:
        row.extend(line)
        row.append(LINE_FEED)
    return row
