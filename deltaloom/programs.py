"""Programs: named inputs, and views that are defined by terms and rules."""

from deltaloom.bags import rows_of, set_bag
from deltaloom.rules import least_set, names_in_bodies
from deltaloom.terms import names_in, value


def sources(view):
    """Return the names that a view refers to, but its own, in the order of their first occurrence."""
    name, kind, definition = view
    if kind == "term":
        return names_in(definition)
    return names_in_bodies(definition, name)


def evaluate_program(program, inputs):
    """Return a dict from the names of the views to their bags; a missing input is empty."""
    _, names, views = program
    bags = {name: inputs.get(name, []) for name in names}
    found = {}
    for view in views:
        bag = view_bag(view, bags)
        bags[view[0]] = bag
        found[view[0]] = bag
    return found


def view_bag(view, bags):
    """Return the bag of a view for a dict that has the bags of the names that it refers to."""
    name, kind, definition = view
    if kind == "term":
        return value(definition, bags, {})
    sets = {source: row_set(bags[source]) for source in sources(view)}
    return set_bag(least_set(definition, name, sets))


def row_set(bag):
    """Return the set of the rows that a bag has, a dict whose keys they are."""
    return {row: True for row in rows_of(bag)}
