"""Points 11 and 14 spelled out case by case, to compare the program with."""

ZERO = ("bag", [])


def plain_derivative(term):
    """Point 11, with recursion."""
    match term:
        case ("old", n):
            return ("change", n)
        case ("bag", _):
            return ZERO
        case ("map", exprs, t):
            return ("map", exprs, plain_derivative(t))
        case ("keep", e, t):
            return ("keep", e, plain_derivative(t))
        case ("neg", t):
            return ("neg", plain_derivative(t))
        case ("plus", a, b):
            return ("plus", plain_derivative(a), plain_derivative(b))
        case ("join", left, right, exprs, a, b):
            def join(x, y):
                return ("join", left, right, exprs, x, y)
            da, db = plain_derivative(a), plain_derivative(b)
            return ("plus", join(a, db), ("plus", join(da, b), join(da, db)))
        case ("once", t):
            return ("plus", ("once", ("plus", t, plain_derivative(t))), ("neg", term))
        case ("fold", keys, kind, e, t):
            return ("plus", ("fold", keys, kind, e, ("plus", t, plain_derivative(t))), ("neg", term))


def join(f, a, b):
    return ("join",) + tuple(f) + (a, b)


# For terms a, b, c, a name n, lists of expressions k, l and m, and an expression e: the two sides of each
# identity, and the extras that it needs forward and backward.
def sides(a, b, c, n, k, l, m, e):
    f, g = (k, l, m), (k, "most", e)
    return {
        "new": (("new", n), ("plus", ("old", n), ("change", n)), None, None),
        "swap": (("plus", a, b), ("plus", b, a), None, None),
        "group": (("plus", ("plus", a, b), c), ("plus", a, ("plus", b, c)), None, None),
        "zero": (("plus", a, ZERO), a, None, None),
        "cancel": (("plus", a, ("neg", a)), ZERO, None, a),
        "twice": (("neg", ("neg", a)), a, None, None),
        "negplus": (("neg", ("plus", a, b)), ("plus", ("neg", a), ("neg", b)), None, None),
        "negzero": (("neg", ZERO), ZERO, None, None),
        "map": (("map", k, ("plus", a, b)), ("plus", ("map", k, a), ("map", k, b)), None, None),
        "mapneg": (("map", k, ("neg", a)), ("neg", ("map", k, a)), None, None),
        "mapzero": (("map", k, ZERO), ZERO, None, k),
        "keep": (("keep", e, ("plus", a, b)), ("plus", ("keep", e, a), ("keep", e, b)), None, None),
        "keepneg": (("keep", e, ("neg", a)), ("neg", ("keep", e, a)), None, None),
        "keepzero": (("keep", e, ZERO), ZERO, None, e),
        "left": (join(f, ("plus", a, b), c), ("plus", join(f, a, c), join(f, b, c)), None, None),
        "right": (join(f, a, ("plus", b, c)), ("plus", join(f, a, b), join(f, a, c)), None, None),
        "leftneg": (join(f, ("neg", a), b), ("neg", join(f, a, b)), None, None),
        "rightneg": (join(f, a, ("neg", b)), ("neg", join(f, a, b)), None, None),
        "leftzero": (join(f, ZERO, a), ZERO, None, join(f, ZERO, a)),
        "rightzero": (join(f, a, ZERO), ZERO, None, join(f, a, ZERO)),
        "differ": (a, ("plus", b, ("plus", a, ("neg", b))), b, None),
        "oncezero": (("once", ZERO), ZERO, None, None),
        "foldzero": (("fold",) + g + (ZERO,), ZERO, None, ("fold",) + g + (ZERO,)),
    }


def forward_side(identity, term, extra):
    """The right side for a term that is the left one, or None."""
    match identity, term:
        case "new", ("new", n):
            return ("plus", ("old", n), ("change", n))
        case "swap", ("plus", a, b):
            return ("plus", b, a)
        case "group", ("plus", ("plus", a, b), c):
            return ("plus", a, ("plus", b, c))
        case "zero", ("plus", a, ("bag", [])):
            return a
        case "cancel", ("plus", a, ("neg", b)) if a == b:
            return ZERO
        case "twice", ("neg", ("neg", a)):
            return a
        case "negplus", ("neg", ("plus", a, b)):
            return ("plus", ("neg", a), ("neg", b))
        case ("map", ("map", f, ("plus", a, b))) | ("keep", ("keep", f, ("plus", a, b))):
            return ("plus", (identity, f, a), (identity, f, b))
        case "mapneg", ("map", f, ("neg", a)):
            return ("neg", ("map", f, a))
        case "keepneg", ("keep", f, ("neg", a)):
            return ("neg", ("keep", f, a))
        case "left", ("join", k, l, m, ("plus", a, b), c):
            return ("plus", ("join", k, l, m, a, c), ("join", k, l, m, b, c))
        case "right", ("join", k, l, m, a, ("plus", b, c)):
            return ("plus", ("join", k, l, m, a, b), ("join", k, l, m, a, c))
        case "leftneg", ("join", k, l, m, ("neg", a), b):
            return ("neg", ("join", k, l, m, a, b))
        case "rightneg", ("join", k, l, m, a, ("neg", b)):
            return ("neg", ("join", k, l, m, a, b))
        case "differ", a if extra is not None:
            return ("plus", extra, ("plus", a, ("neg", extra)))
    return ZERO if gives_zero(identity, term) else None


def gives_zero(identity, term):
    """Whether the term is the left side of one of the identities that have nothing but 0 to the right."""
    match identity, term:
        case ("negzero", ("neg", ("bag", []))) | ("oncezero", ("once", ("bag", []))):
            return True
        case ("mapzero", ("map", _, ("bag", []))) | ("keepzero", ("keep", _, ("bag", []))):
            return True
        case ("leftzero", ("join", _, _, _, ("bag", []), _)) | ("rightzero", ("join", _, _, _, _, ("bag", []))):
            return True
        case "foldzero", ("fold", _, _, _, ("bag", [])):
            return True
    return False


def backward_side(identity, term, extra):
    """The left side for a term that is the right one, or None."""
    match identity, term:
        case "new", ("plus", ("old", n), ("change", m)) if n == m:
            return ("new", n)
        case "swap", ("plus", b, a):
            return ("plus", a, b)
        case "group", ("plus", a, ("plus", b, c)):
            return ("plus", ("plus", a, b), c)
        case "zero", a:
            return ("plus", a, ZERO)
        case "twice", a:
            return ("neg", ("neg", a))
        case "negplus", ("plus", ("neg", a), ("neg", b)):
            return ("neg", ("plus", a, b))
        case ("map", ("plus", ("map", f, a), ("map", g, b))) | ("keep", ("plus", ("keep", f, a), ("keep", g, b))) if f == g:
            return (identity, f, ("plus", a, b))
        case "mapneg", ("neg", ("map", f, a)):
            return ("map", f, ("neg", a))
        case "keepneg", ("neg", ("keep", f, a)):
            return ("keep", f, ("neg", a))
        case "left", ("plus", ("join", *f, a, c), ("join", *g, b, d)) if f == g and c == d:
            return join(f, ("plus", a, b), c)
        case "right", ("plus", ("join", *f, a, b), ("join", *g, d, c)) if f == g and a == d:
            return join(f, a, ("plus", b, c))
        case "leftneg", ("neg", ("join", *f, a, b)):
            return join(f, ("neg", a), b)
        case "rightneg", ("neg", ("join", *f, a, b)):
            return join(f, a, ("neg", b))
        case "differ", ("plus", b, ("plus", a, ("neg", d))) if b == d:
            return a
        case _, ("bag", []):
            return from_zero(identity, extra)
    return None


def from_zero(identity, extra):
    """The left side of an identity that has nothing but 0 to the right, or None."""
    if identity in ("negzero", "oncezero"):
        return (identity[:-4], ZERO)
    if extra is None:
        return None
    if identity == "cancel":
        return ("plus", extra, ("neg", extra))
    if identity in ("mapzero", "keepzero"):
        return (identity[:-4], extra, ZERO)
    whole = identity in ("leftzero", "rightzero", "foldzero") and gives_zero(identity, extra)
    return extra if whole else None


def plain_other_side(identity, forward, term, extra):
    """Point 14 for a step at the empty position."""
    return (forward_side if forward else backward_side)(identity, term, extra)
