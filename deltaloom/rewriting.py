"""Papers: steps that rewrite terms by identities, and the check that accepts or rejects them."""

from deltaloom.postorder import same
from deltaloom.terms import copied, parts_of, with_parts

# The two sides of each identity. A letter stands for a term, f and n for what a term has before its parts,
# and "0" for the empty constant bag.
IDENTITIES = {
    "new": (("new", "n"), ("plus", ("old", "n"), ("change", "n"))),
    "swap": (("plus", "a", "b"), ("plus", "b", "a")),
    "group": (("plus", ("plus", "a", "b"), "c"), ("plus", "a", ("plus", "b", "c"))),
    "zero": (("plus", "a", "0"), "a"),
    "cancel": (("plus", "a", ("neg", "a")), "0"),
    "twice": (("neg", ("neg", "a")), "a"),
    "negplus": (("neg", ("plus", "a", "b")), ("plus", ("neg", "a"), ("neg", "b"))),
    "negzero": (("neg", "0"), "0"),
    "map": (("map", "f", ("plus", "a", "b")), ("plus", ("map", "f", "a"), ("map", "f", "b"))),
    "mapneg": (("map", "f", ("neg", "a")), ("neg", ("map", "f", "a"))),
    "mapzero": (("map", "f", "0"), "0"),
    "keep": (("keep", "f", ("plus", "a", "b")), ("plus", ("keep", "f", "a"), ("keep", "f", "b"))),
    "keepneg": (("keep", "f", ("neg", "a")), ("neg", ("keep", "f", "a"))),
    "keepzero": (("keep", "f", "0"), "0"),
    "left": (("join", "f", ("plus", "a", "b"), "c"), ("plus", ("join", "f", "a", "c"), ("join", "f", "b", "c"))),
    "right": (("join", "f", "a", ("plus", "b", "c")), ("plus", ("join", "f", "a", "b"), ("join", "f", "a", "c"))),
    "leftneg": (("join", "f", ("neg", "a"), "b"), ("neg", ("join", "f", "a", "b"))),
    "rightneg": (("join", "f", "a", ("neg", "b")), ("neg", ("join", "f", "a", "b"))),
    "leftzero": (("join", "f", "0", "a"), "0"),
    "rightzero": (("join", "f", "a", "0"), "0"),
    "differ": ("a", ("plus", "b", ("plus", "a", ("neg", "b")))),
    "oncezero": (("once", "0"), "0"),
    "foldzero": (("fold", "f", "0"), "0"),
}

# What the extra stands for where one is needed: the letter, or the left side of the identity as a whole.
EXTRAS = {
    ("cancel", False): "a",
    ("mapzero", False): "f",
    ("keepzero", False): "f",
    ("leftzero", False): "left side",
    ("rightzero", False): "left side",
    ("differ", True): "b",
    ("foldzero", False): "left side",
}


def other_side(identity, forward, term, extra):
    """Return the other side of an identity for a term that is one side, or None if it is not."""
    return copied_if_any(turned(identity, forward, term, extra))


def subterm(term, position):
    """Return the subterm at a position, or None if there is none."""
    path = path_to(term, position)
    return None if path is None else copied(path[-1])


def rewritten(term, step):
    """Return the term after a step, or None if the step is wrong."""
    return copied_if_any(stepped(term, step))


def paper_right(paper):
    """Return whether the steps of a paper are right and lead from its left term to its right one."""
    left, right, steps = paper
    term = left
    for step in steps:
        term = stepped(term, step)
        if term is None:
            return False
    return same(term, right)


def copied_if_any(term):
    """Return a copy of a term, or None for None."""
    return None if term is None else copied(term)


def path_to(term, position):
    """Return the list of the terms from the term down to its subterm at a position, or None if there is none."""
    path = [term]
    for k in position:
        parts = parts_of(path[-1])
        if not 0 <= k < len(parts):
            return None
        path.append(parts[k])
    return path


def stepped(term, step):
    """Return what rewritten returns; it may share lists with the term and the extra."""
    position, identity, forward, extra = step
    path = path_to(term, position)
    if path is None:
        return None
    found = turned(identity, forward, path[-1], extra)
    if found is None:
        return None
    for k, above in reversed(list(zip(position, path))):
        parts = list(parts_of(above))
        parts[k] = found
        found = with_parts(above, parts)
    return found


def turned(identity, forward, term, extra):
    """Return what other_side returns; it may share lists with the term and the extra."""
    if identity not in IDENTITIES:
        return None
    left, right = IDENTITIES[identity]
    found = {}
    if not fits(left if forward else right, term, found):
        return None
    if not extra_fits(identity, forward, extra, found):
        return None
    return filled_in(right if forward else left, found)


def before_parts(term):
    """Return the tuple of what a term, or a side of an identity, has between its kind and its parts."""
    return term[1:len(term) - len(parts_of(term))]


def fits(side, term, found):
    """Return whether a term has the form of a side; the dict gets what the letters stand for."""
    if side == "0":
        return term[0] == "bag" and len(term[1]) == 0
    if isinstance(side, str):
        return agrees(side, term, found)
    if side[0] != term[0]:
        return False
    for letter in before_parts(side):
        if not agrees(letter, before_parts(term), found):
            return False
    return all([fits(part, other, found) for part, other in zip(parts_of(side), parts_of(term))])


def agrees(letter, thing, found):
    """Return whether a letter may stand for a thing; the dict gets it unless the letter is there already."""
    if letter in found:
        return same(found[letter], thing)
    found[letter] = thing
    return True


def extra_fits(identity, forward, extra, found):
    """Return whether the extra is right for the step; the dict gets what its letters stand for."""
    wanted = EXTRAS.get((identity, forward), "")
    if wanted == "":
        return True
    if extra is None:
        return False
    if wanted == "left side":
        return fits(IDENTITIES[identity][0], extra, found)
    # The letter f stands for a tuple of all that is before the parts, even if that is one thing.
    return agrees(wanted, (extra,) if wanted == "f" else extra, found)


def filled_in(side, found):
    """Return the term of a side for what its letters stand for."""
    if side == "0":
        return ("bag", [])
    if isinstance(side, str):
        return found[side]
    items = [item for letter in before_parts(side) for item in found[letter]]
    return tuple([side[0]] + items + [filled_in(part, found) for part in parts_of(side)])
