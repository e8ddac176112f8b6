"""Bags, terms and rules by a random source with a fixed seed: the tests see the same ones in every run."""
from deltaloom.bags import make_bag

VALUES = (-1, 0, 1, 2, "", "a")
NAMES = ("a", "b", "c")
FOLDS = ("count", "sum", "least", "most")


def bag(source, size=4):
    """A bag of at most `size` rows of up to three values, with counts of both signs."""
    rows = [tuple(source.choices(VALUES, k=source.randint(0, 3))) for _ in range(source.randint(0, size))]
    return make_bag([(row, source.choice((-2, -1, 1, 1, 2, 3))) for row in rows])


def bags(source):
    """A dict from names to bags, in which a name may be missing."""
    return {name: bag(source) for name in NAMES if source.random() < 0.8}


def expr(source, depth=2):
    kind = source.choice(("+", "-", "*", "=", "<", "if", "cat")) if depth and source.random() < 0.5 else "leaf"
    if kind == "leaf":
        return ("at", source.randint(0, 3)) if source.random() < 0.7 else ("const", source.choice(VALUES))
    return (kind,) + tuple(expr(source, depth - 1) for _ in range(3 if kind == "if" else 2))


def exprs(source, most=3):
    return [expr(source) for _ in range(source.randint(0, most))]


def term(source, depth, leaves=("old", "change", "new"), names=NAMES):
    """A term; with "old" alone among the leaves, a simple one."""
    if depth == 0 or source.random() < 0.1:
        return ("bag", bag(source)) if source.random() < 0.2 else (source.choice(leaves), source.choice(names))
    kind = source.choice(("map", "keep", "plus", "neg", "join", "once", "fold"))
    parts = tuple(term(source, depth - 1, leaves, names) for _ in range(2 if kind in ("plus", "join") else 1))
    if kind == "map":
        return (kind, exprs(source)) + parts
    if kind == "keep":
        return (kind, expr(source)) + parts
    if kind == "join":
        many = source.randint(0, 1)
        keys = [[("at", source.randint(0, 1)) for _ in range(many)] for _ in range(2)]
        return (kind, keys[0], keys[1], exprs(source)) + parts
    if kind == "fold":
        return (kind, exprs(source, 1), source.choice(FOLDS), expr(source)) + parts
    return (kind,) + parts


def replaced_parts(source, term, share, other):
    """The term with a share of its parts, or all of it, replaced by what the function `other` gives."""
    if source.random() < share:
        return other()
    many = {"plus": 2, "join": 2, "old": 0, "change": 0, "new": 0, "bag": 0}.get(term[0], 1)
    parts = term[len(term) - many:]
    return term[:len(term) - many] + tuple(replaced_parts(source, part, share, other) for part in parts)


def row_set(source, values, size, most):
    """A set of at most `most` rows, most of them of one size."""
    rows = [tuple(source.choices(values, k=size)) for _ in range(source.randint(0, most))]
    if source.random() < 0.3:
        rows.append(tuple(source.choices(values, k=source.choice((0, 1, 2, 3)))))
    return {row: True for row in rows}


def argument(source, variables, values):
    return ("var", source.choice(variables)) if source.random() < 0.8 and variables else ("const", source.choice(values))


def rule(source, own, sizes, values):
    """A rule for the name `own`; `sizes` has the usual size of the rows of each name."""
    def arguments(name, variables):
        size = sizes[name] if source.random() < 0.9 else source.randint(0, 3)
        return [argument(source, variables, values) for _ in range(size)]

    body = []
    for _ in range(source.choice((0, 1, 1, 2, 2, 2, 3))):
        name = source.choice(sorted(sizes))
        body.append(("yes", name, arguments(name, (0, 1, 2))))
    bound = sorted({content for atom in body for kind, content in atom[2] if kind == "var"})
    for _ in range(source.choice((0, 0, 1))):
        name = source.choice([name for name in sorted(sizes) if name != own])
        body.append(("no", name, arguments(name, bound)))
    source.shuffle(body)
    return (arguments(own, bound), body)


def changed_set(source, rows, values, size):
    """A set like the rows, of which some were lost and to which some were added."""
    kept = {row: True for row in rows if source.random() < 0.6}
    return {**kept, **row_set(source, values, size, 2)}


# Values for written forms: the ends of the ranges, and texts with all that stands between things there.
ODD_VALUES = (
    0, 1, -1, 10, -10, 2147483647, -2147483648, "", " ", "a", "0", "-1", "(1)", "{}", "; ", ", ", ": ", "a {(1): 1}; b {}", "\\",
    "'", "~", "!", "#", "$&", "a" * 40, "(" * 40,
)


def odd_bag(source, size=4):
    """A bag for written forms, with rows of up to 8 values."""
    rows = [tuple(source.choices(ODD_VALUES, k=source.choice((0, 1, 2, 3, 8)))) for _ in range(source.randint(0, size))]
    # Each row once: two of the largest counts together would have 31 digits.
    return make_bag([(row, source.choice((-1, 1, 2, -10, 10 ** 30 - 1, 1 - 10 ** 30))) for row in dict.fromkeys(rows)])


def odd_change(source, size=3):
    """A change for written forms; a name may come more than once."""
    names = ("a", "z", "edge", "abcdefghijkl")
    return [(source.choice(names), odd_bag(source)) for _ in range(source.randint(0, size))]


def program(source):
    """A program with the inputs of NAMES; each of its views refers to inputs and to views before it."""
    names, views = list(NAMES), []
    for name in ("va", "vb", "vc", "vd", "ve")[:source.randint(2, 5)]:
        if source.random() < 0.5:
            views.append((name, "term", term(source, source.randint(1, 2), ("old",), names)))
        else:
            sizes = {other: source.randint(1, 2) for other in names[-3:] + [name]}
            views.append((name, "rules", [rule(source, name, sizes, VALUES[1:3]) for _ in range(source.randint(1, 3))]))
        names.append(name)
    return ("program", list(NAMES), views)
