"""Derivatives: terms that denote the changes of simple terms, with the papers that show it."""

from deltaloom.postorder import in_postorder, worked_out
from deltaloom.terms import copied, new_form, parts_of, placed_parts, with_parts

# For a term whose parts p have become plus(p, derivative of p): the steps after which it is the plus of
# what it was and its derivative. Each is the position below the term, the identity and its direction.
LAST_STEPS = {
    "old": (((), "new", True),),
    "bag": (((), "zero", False),),
    "map": (((), "map", True),),
    "keep": (((), "keep", True),),
    "neg": (((), "negplus", True),),
    "plus": (
        ((), "group", True), ((1,), "group", False), ((1, 0), "swap", True),
        ((1,), "group", True), ((), "group", False),
    ),
    "join": (((), "left", True), ((0,), "right", True), ((1,), "right", True), ((), "group", True)),
    "once": (((), "differ", True),),
    "fold": (((), "differ", True),),
}


def derivative(term):
    """Return the derivative of a simple term."""
    # The parts of a join, once or fold stand in its derivative, too: the copy shares no list with the term.
    return copied(worked_out(term, parts_of, derived))


def derived(term, changes):
    """Return the derivative of a simple term whose parts have the derivatives in the list."""
    kind = term[0]
    if kind == "old":
        return ("change", term[1])
    if kind == "bag":
        return ("bag", [])
    if kind == "join":
        return derived_join(term, changes)
    if kind in ("once", "fold"):
        later = with_parts(term, [("plus", parts_of(term)[0], changes[0])])
        return ("plus", later, ("neg", term))
    return with_parts(term, changes)


def derived_join(term, changes):
    """Return the derivative of a join whose parts have the derivatives in the list."""
    first, second = parts_of(term)
    one, other = changes
    both = ("plus", with_parts(term, [one, second]), with_parts(term, [one, other]))
    return ("plus", with_parts(term, [first, other]), both)


def derivative_paper(term):
    """Return the paper from the new form of a simple term to the plus of the term and its derivative."""
    steps = []
    for position, part in in_postorder(((), term), placed_parts):
        steps.extend(steps_at(position, part))
    return (new_form(term), ("plus", copied(term), derivative(term)), steps)


def steps_at(position, term):
    """Return the steps for the part of a simple term at a position, when those for its own parts are taken."""
    return [
        (position + place, identity, forward, copied(term) if identity == "differ" else None)
        for place, identity, forward in LAST_STEPS[term[0]]
    ]
