"""Simpler terms, with the papers that lead to them."""

from deltaloom.postorder import worked_out
from deltaloom.rewriting import turned
from deltaloom.terms import copied, placed_parts, with_parts

# The identities that make a term of a kind smaller. Those of a tuple are taken one after the other.
SHORTENING = {
    "plus": (("zero",), ("swap", "zero")),
    "neg": (("negzero",), ("twice",)),
    "map": (("mapzero",),),
    "keep": (("keepzero",),),
    "join": (("leftzero",), ("rightzero",)),
    "once": (("oncezero",),),
    "fold": (("foldzero",),),
}


def simplified(term):
    """Return the pair of the simpler term and the paper that leads from the term to it."""
    steps = []
    simpler = worked_out(((), term), placed_parts, lambda placed, parts: shortened(placed, parts, steps))
    return (simpler, (copied(term), copied(simpler), steps))


def shortened(placed, parts, steps):
    """Return the simpler term for the term of a pair (position, term) whose parts have become the simpler ones.

    What is returned has nothing left to simplify if the parts have not. The list gets the steps that were taken.
    """
    position, term = placed
    whole = with_parts(term, parts)
    for identities in SHORTENING.get(term[0], ()):
        found = turned_by(identities, whole)
        if found is not None:
            steps.extend([(position, identity, True, None) for identity in identities])
            return found
    return whole


def turned_by(identities, term):
    """Return the term after the identities, one after the other, or None if one of them does not fit."""
    found = term
    for identity in identities:
        if found is not None:
            found = turned(identity, True, found, None)
    return found
