"""Branches: copies of the inputs that are fed separately and can be merged."""

from deltaloom.bags import minus, plus
from deltaloom.errors import NameTaken, NameUnknown


class Tree:
    """A trunk and the branches that were made from it and from each other."""

    def __init__(self, names):
        self.branches = {"trunk": Branch(None, {name: [] for name in names})}

    def inputs(self, branch):
        """Return a dict from the names of the inputs to their bags in a branch."""
        bags = self.found(branch).bags
        return {name: list(bags[name]) for name in bags}

    def feed(self, branch, name, change):
        """Add a change to an input of a branch."""
        found = self.found_with(branch, name)
        found.bags[name] = plus(found.bags[name], change)

    def fork(self, parent, branch):
        """Make a branch from another one."""
        found = self.found(parent)
        if branch in self.branches:
            raise NameTaken(branch)
        self.branches[branch] = Branch(found, found.bags)

    def change(self, branch, name):
        """Return how an input of a branch has changed since the beginning of the branch."""
        found = self.found_with(branch, name)
        return found.difference(name)

    def merge(self, branch):
        """Merge a branch into its parent."""
        found = self.found(branch)
        if found.parent is None:
            raise NameUnknown(branch)
        bags = found.parent.bags
        found.parent.bags = {name: plus(bags[name], found.difference(name)) for name in bags}
        found.begin(found.parent.bags)

    def found(self, branch):
        """Return the branch with a name."""
        if branch not in self.branches:
            raise NameUnknown(branch)
        return self.branches[branch]

    def found_with(self, branch, name):
        """Return the branch with a name if it has an input with the other name."""
        found = self.found(branch)
        if name not in found.bags:
            raise NameUnknown(name)
        return found


class Branch:
    """The bags of the inputs now and at the beginning of a branch. No bag is changed, but replaced by another one."""

    def __init__(self, parent, bags):
        self.parent = parent
        self.begin(bags)

    def begin(self, bags):
        """Make the bags the ones of the branch and the ones at its beginning."""
        self.start = dict(bags)
        self.bags = dict(bags)

    def difference(self, name):
        """Return the bag that was added to an input since the beginning of the branch."""
        return minus(self.bags[name], self.start[name])
