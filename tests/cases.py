"""Made-up texts that tell a case, small enough that all sets of rules can be gone through."""

import itertools

import model
from texts import lines


def literal(chance, names):
    return chance.choice(["", "~"]) + chance.choice(names)


def clause(start, body, arrow, head):
    return start + ":" + "".join(" " + each + "," for each in body)[:-1] + f" {arrow} {head}"


def any_clauses(chance, names, atoms):
    heads = [(f"rule {name}", "=>") for name in names]
    heads += [(f"law l{i}", "->") for i in range(chance.randint(0, 8))]
    for start, arrow in heads:
        body = chance.sample(atoms, chance.choice([0, 0, 1, 1, 2, 3]))
        yield clause(start, [chance.choice(["", "", "~"]) + each for each in body], arrow, literal(chance, atoms))


# Rules that hold by themselves, and laws by which some of them can't be held together.
def tangled_clauses(chance, names, atoms):
    for name in names:
        yield clause(f"rule {name}", chance.sample(atoms, chance.choice([0, 0, 0, 0, 1])), "=>", chance.choice(atoms))
    for i in range(chance.randint(1, 10)):
        body = chance.sample(atoms, chance.choice([1, 1, 2, 2, 3]))
        yield clause(f"law l{i}", body, "->", chance.choice(["~", "~", ""]) + chance.choice(atoms))


# The rules' names are among the atoms, so that many sets clash. Lines that would be faulty are left
# out one by one.
def some_case(chance, most_rules):
    names = [f"r{i}" for i in range(max(chance.randint(0, most_rules), chance.randint(0, most_rules)))]
    atoms = names + [f"p{i}" for i in range(chance.randint(3, 6))]
    clauses = list(chance.choice([any_clauses, tangled_clauses])(chance, names, atoms))
    chance.shuffle(clauses)
    weights = [f"weigh {chance.choice(names)} > {chance.choice(names)}" for i in range(chance.randint(0, 6)) if names]
    good = ""
    for row in clauses + weights:
        if model.tells_a_case((good + row + "\n").encode()):
            good += row + "\n"
    return good


def sets_of_size(size, number):
    return sorted(sum(2 ** i for i in each) for each in itertools.combinations(range(number), size))


# Any `least` of the rules clash, and no fewer. sI-N: of the first I rules at least N are there; those
# from which the last can't be reached are left out.
def counting_case(number, least):
    laws = []
    for n in range(1, least + 1):
        for i in range(n, n + number - least + 1):
            before = f", s{i - 1}-{n - 1}" if n > 1 else ""
            laws.append(f"r{i - 1}{before} -> s{i}-{n}")
            if i > n:
                laws.append(f"s{i - 1}-{n} -> s{i}-{n}")
    laws.append(f"s{number}-{least} -> ~s{number}-{least}")
    return lines(*[f"law l{i}: {law}" for i, law in enumerate(laws)], *[f"rule r{i}: => r{i}" for i in range(number)])
