"""The document's words once more, by patterns and sets, to hold the program against."""

import re

NAME = rb"[a-z][a-z0-9-]{0,14}"
LITERAL = rb"~?" + NAME
BODY = rb"(?: " + LITERAL + rb"(?:, " + LITERAL + rb"){0,5})?"
LAW = re.compile(rb"law (" + NAME + rb"):(" + BODY + rb") -> (" + LITERAL + rb")")
RULE = re.compile(rb"rule (" + NAME + rb"):(" + BODY + rb") => (" + LITERAL + rb")")
WEIGH = re.compile(rb"weigh (" + NAME + rb") > (" + NAME + rb")")


class Fault(Exception):
    pass


def opposite(literal):
    return literal[1:] if literal[:1] == b"~" else b"~" + literal


def atoms_of(laws, rules):
    named = set(rules)
    for body, head in list(laws.values()) + list(rules.values()):
        named |= {each.lstrip(b"~") for each in body + (head,)}
    return named


def going_on(pairs):
    closed = set(pairs)
    while True:
        more = {(x, w) for x, y in closed for z, w in closed if y == z} - closed
        if not more:
            return closed
        closed |= more


def closure(clauses, held):
    while True:
        more = {head for body, head in clauses if set(body) <= held} - held
        if not more:
            return held
        held = held | more


def has_clash(held):
    return any(opposite(each) in held for each in held)


def take_clause(laws, rules, own, most, match):
    name, head = match[1], match[3]
    body = tuple(match[2][1:].split(b", ")) if match[2] else ()
    if name in laws or name in rules:
        raise Fault(2)
    if len(set(body)) < len(body) or (body, head) in own.values():
        raise Fault(3)
    own[name] = (body, head)
    if len(own) > most or len(atoms_of(laws, rules)) > 64:
        raise Fault(4)
    if own is laws and has_clash(closure(laws.values(), set())):
        raise Fault(7)


def take_line(laws, rules, pairs, line):
    if match := LAW.fullmatch(line):
        take_clause(laws, rules, laws, 64, match)
    elif match := RULE.fullmatch(line):
        take_clause(laws, rules, rules, 10, match)
    elif match := WEIGH.fullmatch(line):
        if match[1] not in rules or match[2] not in rules:
            raise Fault(5)
        pairs.add((match[1], match[2]))
        if any(x == y for x, y in going_on(pairs)):
            raise Fault(6)
    else:
        raise Fault(1)


def read_case(text):
    laws, rules, pairs = {}, {}, set()
    place = 0
    for line in re.findall(rb"[^\n]*\n|[^\n]+", text):
        if not line.endswith(b"\n"):
            raise Fault(1, len(text))
        try:
            take_line(laws, rules, pairs, line[:-1])
        except Fault as fault:
            raise Fault(fault.args[0], place)
        place += len(line)
    return laws, rules, going_on(pairs)


def kept_weights(rules, pairs):
    return sorted((x, y) for x, y in pairs if not any((x, z) in pairs and (z, y) in pairs for z in rules))


def form(laws, rules, pairs):
    rows = []
    for word, arrow, own in ((b"law ", b" -> ", laws), (b"rule ", b" => ", rules)):
        for name, (body, head) in sorted(own.items()):
            rows.append(word + name + b":" + (b" " if body else b"") + b", ".join(body) + arrow + head + b"\n")
    rows += [b"weigh " + x + b" > " + y + b"\n" for x, y in kept_weights(rules, pairs)]
    return b"".join(rows)


def tells_a_case(text):
    try:
        read_case(text)
    except Fault:
        return False
    return True


def literal_number(atoms, literal):
    return 2 * atoms.index(literal.lstrip(b"~")) + literal.startswith(b"~")


def has(chosen, i):
    return chosen // 2 ** i % 2 == 1


def within(chosen, other):
    return chosen | other == other


def least(sets):
    return [each for each in sets if not any(within(other, each) for other in sets if other != each)]


# All that is told of a case that is there, call by call, of every number and set that it has.
class Told:
    def __init__(self, text):
        self.laws, self.rules, self.pairs = read_case(text)
        self.atoms = sorted(atoms_of(self.laws, self.rules))
        self.names = sorted(self.rules)
        self.sets = range(2 ** len(self.names))
        self.known_clashes = {}
        self.known_strikes = {}

    def members(self, chosen):
        return [name for i, name in enumerate(self.names) if has(chosen, i)]

    def held(self, chosen):
        members = self.members(chosen)
        return closure(list(self.laws.values()) + [self.rules[name] for name in members], set(members))

    def follows(self, chosen):
        return sorted(literal_number(self.atoms, literal) for literal in self.held(chosen))

    def clash(self, chosen):
        if chosen not in self.known_clashes:
            self.known_clashes[chosen] = has_clash(self.held(chosen))
        return self.known_clashes[chosen]

    def clashes(self):
        return least([chosen for chosen in self.sets if self.clash(chosen)])

    def outweighs(self, i):
        return [j for j, name in enumerate(self.names) if (self.names[i], name) in self.pairs]

    def can_strike(self, each, i):
        lesser = [j for j in self.outweighs(i) if has(each, j)]
        return not has(each, i) and not lesser and not self.clash(each) and self.clash(each | 2 ** i)

    def strikes(self, chosen, i):
        if (chosen, i) not in self.known_strikes:
            found = any(within(each, chosen) and self.can_strike(each, i) for each in self.sets)
            self.known_strikes[(chosen, i)] = found
        return self.known_strikes[(chosen, i)]

    def strikers(self, i):
        return least([each for each in self.sets if self.can_strike(each, i)])

    def struck(self, on, chosen):
        return sum(2 ** i for i in self.numbers(on) if self.strikes(chosen, i))

    def numbers(self, chosen):
        return [i for i in range(len(self.names)) if has(chosen, i)]

    def strikes_one_of(self, chosen, other):
        return any(self.strikes(chosen, i) for i in self.numbers(other))

    def free(self, chosen):
        return not self.strikes_one_of(chosen, chosen)

    def defends(self, on, chosen, i):
        threats = [each for each in self.sets if within(each, on) and self.strikes(each, i)]
        return all(self.strikes_one_of(chosen, each) for each in threats)

    def defended(self, on, chosen):
        return sum(2 ** i for i in self.numbers(on) if self.defends(on, chosen, i))

    def admissible(self, on, chosen):
        return within(chosen, on) and self.free(chosen) and within(chosen, self.defended(on, chosen))

    def complete(self, on, chosen):
        return self.admissible(on, chosen) and within(self.defended(on, chosen), chosen)

    def kind(self, on, chosen):
        if not within(chosen, on) or not self.free(chosen):
            return 0
        return 3 if self.complete(on, chosen) else 2 if self.admissible(on, chosen) else 1


# What read, print_form and count with 0 to 4 answer.
def answers(text):
    if len(text) > 8192:
        return [[-1]] * 7
    try:
        laws, rules, pairs = read_case(text)
    except Fault as fault:
        return [[-6, *fault.args]] + [[-6]] * 6
    numbers = [len(laws), len(rules), len(atoms_of(laws, rules)), len(kept_weights(rules, pairs))]
    return [[0], [0, *form(laws, rules, pairs)], *[[0, number] for number in numbers], [-1]]
