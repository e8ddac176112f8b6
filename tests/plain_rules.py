"""Points 7, 8 and 18 spelled out by trying all substitutions, to compare the program with. Sets are Python sets."""
import itertools


def row_of(arguments, known):
    return tuple(content if kind == "const" else known[content] for kind, content in arguments)


def substitutions(rule, values):
    """All substitutions of the variables of a rule by the values."""
    arguments = rule[0] + [argument for atom in rule[1] for argument in atom[2]]
    variables = sorted({content for kind, content in arguments if kind == "var"})
    for chosen in itertools.product(values, repeat=len(variables)):
        yield dict(zip(variables, chosen))


def values_in(rules, sets):
    """All values that stand in rows and rules."""
    values = {value for rows in sets.values() for row in rows for value in row}
    for head, body in rules:
        for arguments in [head] + [atom[2] for atom in body]:
            values |= {content for kind, content in arguments if kind == "const"}
    return sorted(values, key=repr)


def holds(atom, known, sets):
    sign, name, arguments = atom
    return (row_of(arguments, known) in sets[name]) == (sign == "yes")


def instances(rules, sets):
    """The pairs of the row of a head and its body, a list of (sign, name, row), for which the body holds."""
    found = []
    for rule in rules:
        for known in substitutions(rule, values_in(rules, sets)):
            if all(holds(atom, known, sets) for atom in rule[1]):
                found.append((row_of(rule[0], known), [(sign, name, row_of(args, known)) for sign, name, args in rule[1]]))
    return found


def grown(rules, own, sets, rows):
    """The rows that are there when the rules have added to the rows all that they can."""
    held = {name: set(sets[name]) for name in sets}
    held[own] = set(rows)
    while True:
        heads = {head for head, body in instances(rules, held)}
        if heads <= held[own]:
            return held[own]
        held[own] |= heads


def may_depend_on_a_loss(rules, own, olds, news, rows):
    """The rows that point 18 removes first."""
    held = {name: set(olds[name]) for name in olds}
    held[own] = set(rows)
    bodies = instances(rules, held)
    removed = set()
    while True:
        more = set()
        for head, body in bodies:
            for sign, name, row in body:
                if name == own:
                    hit = row in removed
                elif sign == "yes":
                    hit = row in olds[name] and row not in news[name]
                else:
                    hit = row in news[name] and row not in olds[name]
                if hit and head in held[own]:
                    more.add(head)
        if more <= removed:
            return removed
        removed |= more
