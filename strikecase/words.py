"""The rows of bytes that a text is made of: its words, names and literals.

A name is kept as a tuple of its bytes: tuples are in order just as names are,
by bytes, a beginning first. A literal is a pair: its name, and 1 for the opposite, else 0.
"""

LINE_FEED = 10
BLANK = 32
LONGEST_NAME = 15


def spell(text):
    return tuple([ord(sign) for sign in text])


def split_at(row, mark):
    parts = []
    part = []
    for byte in row:
        if byte == mark:
            parts.append(tuple(part))
            part = []
        else:
            part.append(byte)
    parts.append(tuple(part))
    return parts


def join_with_blanks(words):
    row = list(words[0])
    for word in words[1:]:
        row.append(BLANK)
        row.extend(word)
    return row


# Where the ending is missing, no bytes are left: that is no name and no literal.
def without_ending(word, sign):
    if word[-1:] == spell(sign):
        return word[:-1]
    return ()


def is_letter(byte):
    return ord("a") <= byte <= ord("z")


def is_name_byte(byte):
    return is_letter(byte) or ord("0") <= byte <= ord("9") or byte == ord("-")


def is_name(word):
    if len(word) == 0 or len(word) > LONGEST_NAME:
        return False
    return is_letter(word[0]) and all([is_name_byte(byte) for byte in word])


def parse_literal(word):
    opposite = 0
    name = word
    if word[:1] == spell("~"):
        opposite = 1
        name = word[1:]
    if not is_name(name):
        return None
    return (name, opposite)


def spell_literal(literal):
    if literal[1] == 1:
        return spell("~") + literal[0]
    return literal[0]
