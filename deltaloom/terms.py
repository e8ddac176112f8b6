"""Terms: bags that are computed from the bags of names and their changes."""

from deltaloom.bags import make_bag, plus, rows_of, scaled, support
from deltaloom.exprs import evaluate, mapped, number
from deltaloom.postorder import in_postorder, worked_out
from deltaloom.values import rank, wrap

# How many of the last items of a term are terms; the kinds that are not named here have none.
MANY_PARTS = {"map": 1, "keep": 1, "plus": 2, "neg": 1, "join": 2, "once": 1, "fold": 1}


def parts_of(term):
    """Return the tuple of the terms that a term is made of."""
    return term[len(term) - MANY_PARTS.get(term[0], 0):]


def with_parts(term, parts):
    """Return the term with a list of as many other parts. It shares no list with the term itself."""
    before = term[:len(term) - len(parts)]
    return tuple([list(item) if isinstance(item, list) else item for item in before] + parts)


def copied(term):
    """Return an equal term that shares no list with the term."""
    return worked_out(term, parts_of, with_parts)


def placed_parts(placed):
    """Return the pairs of position and term for the parts of a term that is given as such a pair."""
    position, term = placed
    return [(position + (k,), part) for k, part in enumerate(parts_of(term))]


def names_in(term):
    """Return the names in a term in the order of their first occurrence, without duplicates."""
    parts = in_postorder(term, parts_of)
    return list({part[1]: True for part in parts if part[0] in ("old", "change", "new")})


def new_form(term):
    """Return the new form of a simple term: each "old" becomes "new"."""
    return worked_out(term, parts_of, renewed)


def renewed(term, parts):
    """Return the new form of a term whose parts have the new forms in the list."""
    if term[0] == "old":
        return ("new", term[1])
    return with_parts(term, parts)


def value(term, olds, changes):
    """Return the bag that a term denotes; a name that is missing in a dict denotes the empty bag there."""
    return worked_out(term, parts_of, lambda part, bags: denoted(part, bags, olds, changes))


def denoted(term, bags, olds, changes):
    """Return the bag of a term whose parts denote the bags in the list."""
    kind = term[0]
    if kind == "bag":
        return list(term[1])
    if kind == "old":
        return list(olds.get(term[1], []))
    if kind == "change":
        return list(changes.get(term[1], []))
    if kind == "new":
        return plus(olds.get(term[1], []), changes.get(term[1], []))
    if kind == "plus":
        return plus(bags[0], bags[1])
    if kind == "join":
        return joined(term[1:4], bags[0], bags[1])
    return altered(term, bags[0])


def altered(term, bag):
    """Return the bag of a map, keep, neg, once or fold whose only part denotes the bag."""
    kind = term[0]
    if kind == "map":
        return make_bag([(mapped(term[1], row), count) for row, count in bag])
    if kind == "keep":
        return [(row, count) for row, count in bag if evaluate(term[1], row) != 0]
    if kind == "neg":
        return scaled(bag, -1)
    if kind == "once":
        return support(bag)
    return folded(term[1], term[2], term[3], bag)


def grouped(keys, bag):
    """Return a dict from the rows of the values of the keys to the lists of the pairs that have them."""
    groups = {}
    for row, count in bag:
        groups.setdefault(mapped(keys, row), []).append((row, count))
    return groups


def joined(lists, first, second):
    """Return the bag of a join with the three lists of expressions for the bags of its parts."""
    left, right, exprs = lists
    partners = grouped(right, second)
    pairs = []
    for row, count in first:
        for other, times in partners.get(mapped(left, row), []):
            pairs.append((mapped(exprs, row + other), count * times))
    return make_bag(pairs)


def folded(keys, kind, e, bag):
    """Return the bag of a fold for the bag of its part."""
    groups = grouped(keys, bag)
    results = [(key, group_result(kind, e, groups[key])) for key in groups]
    return make_bag([(key + (found,), 1) for key, found in results if found is not None])


def group_result(kind, e, group):
    """Return the value that a fold gives for the pairs of a group, or None if it gives no row."""
    if kind == "count":
        return wrap(sum([count for _, count in group]))
    if kind == "sum":
        return wrap(sum([count * number(evaluate(e, row)) for row, count in group]))
    found = sorted([evaluate(e, row) for row in rows_of(group)], key=rank)
    if not found:
        return None
    return found[0] if kind == "least" else found[-1]
