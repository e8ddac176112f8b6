"""Tables: growing sets of rows in which rows are found by some of their values."""


class Table:
    """A set of rows. Rows can be added, but not removed."""

    def __init__(self, rows):
        self.rows = {row: True for row in rows}
        # A dict for each size and places that were asked for, so that asking again needs no search.
        self.indexes = {}

    def put(self, row):
        """Add a row, unless it is there."""
        if row in self.rows:
            return
        self.rows[row] = True
        for size, places in list(self.indexes):
            enter(self.indexes[size, places], size, places, row)

    def matching(self, size, places, items):
        """Return the list of the rows of a size that have the items of a tuple at the places of a tuple."""
        if (size, places) not in self.indexes:
            index = {}
            for row in self.rows:
                enter(index, size, places, row)
            self.indexes[size, places] = index
        return list(self.indexes[size, places].get(items, []))


def enter(index, size, places, row):
    """Add a row to the dict for a size and places, if it has this size."""
    if len(row) == size:
        index.setdefault(tuple([row[k] for k in places]), []).append(row)
