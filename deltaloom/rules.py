"""Rules: sets of rows that are the smallest ones in which all heads of rules stand whose bodies hold."""

from deltaloom.tables import Table
from deltaloom.values import row_rank


def least_set(rules, own, sets):
    """Return the rows of the smallest set for the rules of the view `own`, ascending."""
    return completed(rules, own, sets, [])


def updated_set(rules, own, olds, news, rows):
    """Return the rows of the smallest set for the sets `news`, ascending, from those for the sets `olds`."""
    removed = doubtful(rules, own, olds, news, rows)
    return completed(rules, own, news, [row for row in rows if row not in removed])


def names_in_bodies(rules, own):
    """Return the names in the bodies but `own`, in the order of their first occurrence, without duplicates."""
    names = [atom[1] for _, body in rules for atom in body]
    return list({name: True for name in names if name != own})


def completed(rules, own, sets, rows):
    """Return the rows, ascending, that are there when the rules have added to the rows all that they can."""
    tables = tables_for(rules, own, sets, rows)
    heads = all_heads(rules, tables)
    while heads:
        fresh = without(heads, tables[own].rows)
        for row in fresh:
            tables[own].put(row)
        # A body without a fresh row held before, too, and its head has been added.
        heads = heads_through(rules, {"yes": {own: fresh}, "no": {}}, tables)
    return sorted(tables[own].rows, key=row_rank)


def doubtful(rules, own, olds, news, rows):
    """Return a dict whose keys are the rows that may depend on a loss."""
    tables = tables_for(rules, own, olds, rows)
    names = names_in_bodies(rules, own)
    lost = {name: without(olds[name], news[name]) for name in names}
    gained = {name: without(news[name], olds[name]) for name in names}
    removed = {}
    heads = heads_through(rules, {"yes": lost, "no": gained}, tables)
    while heads:
        fresh = [row for row in without(heads, removed) if row in tables[own].rows]
        for row in fresh:
            removed[row] = True
        heads = heads_through(rules, {"yes": {own: fresh}, "no": {}}, tables)
    return removed


def tables_for(rules, own, sets, rows):
    """Return a dict from the names in the bodies to tables of their rows; `own` has the rows of the list."""
    tables = {name: Table(sets[name]) for name in names_in_bodies(rules, own)}
    tables[own] = Table(rows)
    return tables


def without(rows, others):
    """Return the list of the rows that are not among the keys of a dict."""
    return [row for row in rows if row not in others]


def all_heads(rules, tables):
    """Return a dict whose keys are the rows of the heads for all substitutions for which a body holds."""
    found = {}
    for head, body in rules:
        for known in solutions([{}], body, tables):
            found[filled(head, known)] = True
    return found


def heads_through(rules, changed, tables):
    """Return a dict like all_heads, for the bodies that also have an atom whose row is one of the changed ones.

    `changed` has, for each sign, a dict from names to lists of rows. A changed row makes its atom hold.
    """
    found = {}
    for head, body in rules:
        for k, (sign, name, arguments) in enumerate(body):
            matches = [matched(arguments, row, {}) for row in changed[sign].get(name, [])]
            starts = [known for known in matches if known is not None]
            for known in solutions(starts, body[:k] + body[k + 1:], tables):
                found[filled(head, known)] = True
    return found


def solutions(starts, atoms, tables):
    """Return the substitutions that extend one of the list `starts` and for which all atoms hold."""
    found = starts
    for sign, name, arguments in atoms:
        if sign == "yes":
            found = [longer for known in found for longer in extensions(arguments, known, tables[name])]
    # A "no" atom may stand before the atoms that give its variables their values.
    for sign, name, arguments in atoms:
        if sign == "no":
            found = [known for known in found if filled(arguments, known) not in tables[name].rows]
    return found


def extensions(arguments, known, table):
    """Return the substitutions that extend `known` so that the row of the arguments is in the table."""
    places = [k for k, (kind, content) in enumerate(arguments) if kind == "const" or content in known]
    items = filled([arguments[k] for k in places], known)
    rows = table.matching(len(arguments), tuple(places), items)
    matches = [matched(arguments, row, known) for row in rows]
    return [longer for longer in matches if longer is not None]


def matched(arguments, row, known):
    """Return the substitution that extends `known` so that the arguments give the row, or None if none does."""
    if len(arguments) != len(row):
        return None
    found = dict(known)
    for (kind, content), item in zip(arguments, row):
        wanted = content if kind == "const" else found.setdefault(content, item)
        if wanted != item:
            return None
    return found


def filled(arguments, known):
    """Return the row of the arguments under a substitution."""
    return tuple([content if kind == "const" else known[content] for kind, content in arguments])
