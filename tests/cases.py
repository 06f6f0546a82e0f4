"""Made-up texts that tell a case, small enough that all sets of rules can be gone through."""

import model


def literal(chance, names):
    return chance.choice(["", "~"]) + chance.choice(names)


def clause(chance, word, arrow, name, names):
    body = chance.sample(names, chance.choice([0, 0, 1, 1, 2, 3]))
    row = ", ".join(chance.choice(["", "", "~"]) + each for each in body)
    return f"{word} {name}:{' ' if row else ''}{row} {arrow} {literal(chance, names)}"


# Few atoms, the rules' names among them, so that many sets clash. Lines that would be faulty are
# left out one by one.
def some_case(chance, most_rules):
    names = [f"r{i}" for i in range(chance.randint(0, most_rules))]
    atoms = names + [f"p{i}" for i in range(chance.randint(3, 6))]
    rows = [clause(chance, "rule", "=>", each, atoms) for each in names]
    rows += [clause(chance, "law", "->", f"l{i}", atoms) for i in range(chance.randint(0, 8))]
    chance.shuffle(rows)
    rows += [f"weigh {chance.choice(names)} > {chance.choice(names)}" for i in range(chance.randint(0, 5)) if names]
    good = ""
    for row in rows:
        if model.tells_a_case((good + row + "\n").encode()):
            good += row + "\n"
    return good
