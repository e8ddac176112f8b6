"""Point 5 spelled out, to compare the program with: a bag is a dict from all its rows to their counts here."""
import itertools

from deltaloom.exprs import evaluate, mapped
from order import value_before

SPAN = 4294967296


def added(pairs):
    """The dict of the sums of the counts, without counts of 0."""
    counts = {}
    for row, count in pairs:
        counts[row] = counts.get(row, 0) + count
    return {row: count for row, count in counts.items() if count != 0}


def wrapped(n):
    while n > 2147483647:
        n -= SPAN
    while n < -2147483648:
        n += SPAN
    return n


def fold_of(kind, e, group):
    """The values, none or one, that a fold gives for the rows and counts of a group."""
    if kind == "count":
        return [wrapped(sum(group.values()))]
    values = {row: evaluate(e, row) for row in group}
    if kind == "sum":
        return [wrapped(sum(group[row] * values[row] for row in group if not isinstance(values[row], str)))]
    had = {values[row] for row in group if group[row] > 0}
    if kind == "least":
        return [value for value in had if all(value == other or value_before(value, other) for other in had)]
    return [value for value in had if all(value == other or value_before(other, value) for other in had)]


def folded(keys, kind, e, counts):
    found = []
    for key in {mapped(keys, row) for row in counts}:
        group = {row: count for row, count in counts.items() if mapped(keys, row) == key}
        found += [(key + (value,), 1) for value in fold_of(kind, e, group)]
    return added(found)


def counts_of(term, olds, changes):
    """The counts of the bag that a term denotes."""
    kind = term[0]
    if kind == "bag":
        return added(term[1])
    if kind in ("old", "change", "new"):
        olds_too = olds.get(term[1], []) if kind != "change" else []
        return added(olds_too + (changes.get(term[1], []) if kind != "old" else []))
    last = counts_of(term[-1], olds, changes)
    if kind == "map":
        return added([(mapped(term[1], row), count) for row, count in last.items()])
    if kind == "keep":
        return {row: count for row, count in last.items() if evaluate(term[1], row) != 0}
    if kind == "neg":
        return {row: -count for row, count in last.items()}
    if kind == "once":
        return {row: 1 for row, count in last.items() if count > 0}
    if kind == "fold":
        return folded(term[1], term[2], term[3], last)
    first = counts_of(term[-2], olds, changes)
    if kind == "plus":
        return added(list(first.items()) + list(last.items()))
    found = []
    for (x, many), (y, times) in itertools.product(first.items(), last.items()):
        if mapped(term[1], x) == mapped(term[2], y):
            found.append((mapped(term[3], x + y), many * times))
    return added(found)
