"""Bags: lists of pairs (row, count), ascending by row, without counts of 0 and doubled rows."""

from deltaloom.values import row_rank


def make_bag(pairs):
    """Return the bag in which the counts of the pairs are added, row by row."""
    counts = {}
    for row, count in pairs:
        counts[row] = counts.get(row, 0) + count
    rows = [row for row in counts if counts[row] != 0]
    return [(row, counts[row]) for row in sorted(rows, key=row_rank)]


def plus(first, second):
    """Return the sum of two bags."""
    return make_bag(first + second)


def minus(first, second):
    """Return the sum of the first bag and the negation of the second one."""
    return plus(first, scaled(second, -1))


def scaled(bag, factor):
    """Return the product of a bag with an integer."""
    # A product with 0 would leave pairs with the count 0, which no bag contains.
    if factor == 0:
        return []
    return [(row, count * factor) for row, count in bag]


def count_of(bag, row):
    """Return the count of a row, 0 if the bag does not name it."""
    for other, count in bag:
        if other == row:
            return count
    return 0


def rows_of(bag):
    """Return the list of the rows that the bag has, ascending."""
    return [row for row, count in bag if count > 0]


def support(bag):
    """Return the bag with the count 1 for each row that the bag has."""
    return [(row, 1) for row in rows_of(bag)]


def set_bag(rows):
    """Return the bag in which each of the rows has the count 1, however often it occurs."""
    return support(make_bag([(row, 1) for row in rows]))
