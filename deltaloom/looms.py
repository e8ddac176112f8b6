"""Looms: programs whose views are kept up change by change."""

from deltaloom.bags import minus, plus, rows_of, set_bag
from deltaloom.deriving import derivative
from deltaloom.errors import NameUnknown
from deltaloom.programs import evaluate_program, row_set, sources
from deltaloom.rules import updated_set
from deltaloom.simplifying import simplified
from deltaloom.terms import value


class Loom:
    """The bags of a program's inputs and views; that of a view is as new as its last refresh."""

    def __init__(self, program):
        _, names, views = program
        self.bags = {**{name: [] for name in names}, **evaluate_program(program, {})}
        self.views = {view[0]: KeptView(view) for view in views}
        self.hearers = {name: [] for name in self.bags}
        for view in list(self.views.values()):
            for source in view.sources:
                self.hearers[source].append(view)

    def feed(self, name, change):
        """Add a change to an input."""
        if name in self.views or name not in self.bags:
            raise NameUnknown(name)
        self.take(name, change)

    def refresh(self, name):
        """Bring a view and all views that it rests on up to date."""
        if name not in self.views:
            raise NameUnknown(name)
        wanted = self.names_below(name)
        for view in list(self.views.values()):
            if view.name in wanted and view.is_late():
                change = view.own_change(self.bags)
                view.forget()
                self.take(view.name, change)

    def read(self, name):
        """Refresh a view and return its bag, or return the bag of an input."""
        if name not in self.bags:
            raise NameUnknown(name)
        if name in self.views:
            self.refresh(name)
        return list(self.bags[name])

    def take(self, name, change):
        """Add a change to the bag of an input or view; it waits in the views that refer to it."""
        self.bags[name] = plus(self.bags[name], change)
        for view in self.hearers[name]:
            view.hear(name, change)

    def names_below(self, name):
        """Return a dict whose keys are a view's name and all names that it refers to, also through other views."""
        # From the last view on, by a loop and not by recursion: a program may have a long chain of views.
        found = {name: True}
        for view in reversed(list(self.views.values())):
            if view.name in found:
                found.update({source: True for source in view.sources})
        return found


class KeptView:
    """A view with the changes of what it refers to that wait for its next refresh."""

    def __init__(self, view):
        self.name, self.kind, definition = view
        self.sources = sources(view)
        self.waiting = {source: [] for source in self.sources}
        # What is kept is a copy: the program is the caller's, who may change its lists later.
        if self.kind == "term":
            self.definition, _ = simplified(derivative(definition))
        else:
            self.definition = copied_rules(definition)

    def hear(self, name, change):
        """Let a change of a name that the view refers to wait."""
        self.waiting[name] = plus(self.waiting[name], change)

    def is_late(self):
        """Return whether anything that the view refers to has changed."""
        return any([len(change) > 0 for change in list(self.waiting.values())])

    def forget(self):
        """Let no change wait any longer."""
        self.waiting = {source: [] for source in self.sources}

    def own_change(self, bags):
        """Return the change of the view; the bags of what it refers to are as they are after the waiting changes."""
        olds = {source: minus(bags[source], self.waiting[source]) for source in self.sources}
        if self.kind == "term":
            return value(self.definition, olds, self.waiting)
        old_sets = {source: row_set(olds[source]) for source in self.sources}
        new_sets = {source: row_set(bags[source]) for source in self.sources}
        bag = bags[self.name]
        rows = updated_set(self.definition, self.name, old_sets, new_sets, rows_of(bag))
        return minus(set_bag(rows), bag)


def copied_rules(rules):
    """Return a list of equal rules that shares no list with the rules."""
    return [
        (list(head), [(sign, name, list(arguments)) for sign, name, arguments in body])
        for head, body in rules
    ]
