"""The three lines of a text: from their words, and back into bytes."""

from strikecase.pleading import Clause
from strikecase.words import is_name, join_with_blanks, parse_literal, spell, spell_literal, without_ending

LAW_WORD = "law"
LAW_ARROW = "->"
RULE_WORD = "rule"
RULE_ARROW = "=>"
WEIGH_WORD = "weigh"
WEIGH_SIGN = ">"
LONGEST_BODY = 6


def parse_body(words):
    if len(words) > LONGEST_BODY:
        return None
    bare = [without_ending(word, ",") for word in words[:-1]] + words[-1:]
    body = [parse_literal(word) for word in bare]
    if None in body:
        return None
    return tuple(body)


# The first word is known by whoever calls; None where the others are not those of a law or rule.
def parse_clause(words, arrow):
    if len(words) < 4 or words[-2] != spell(arrow):
        return None
    name = without_ending(words[1], ":")
    body = parse_body(words[2:-2])
    head = parse_literal(words[-1])
    if not is_name(name) or body is None or head is None:
        return None
    return Clause(name, body, head)


def parse_weight(words):
    if len(words) != 4 or words[2] != spell(WEIGH_SIGN):
        return None
    if not is_name(words[1]) or not is_name(words[3]):
        return None
    return (words[1], words[3])


def spell_clause(first_word, clause, arrow):
    body = [spell_literal(literal) for literal in clause.body]
    words = [spell(first_word), clause.name + spell(":")]
    words.extend([word + spell(",") for word in body[:-1]])
    words.extend(body[-1:])
    words.append(spell(arrow))
    words.append(spell_literal(clause.head))
    return join_with_blanks(words)


def spell_weight(pair):
    return join_with_blanks([spell(WEIGH_WORD), pair[0], spell(WEIGH_SIGN), pair[1]])
