"""The order of point 2, spelled out pair by pair, to compare the program with."""


def value_before(first, second):
    """Whether the first value is smaller."""
    if isinstance(first, str) != isinstance(second, str):
        return isinstance(second, str)
    if not isinstance(first, str):
        return first < second
    for k in range(min(len(first), len(second))):
        if ord(first[k]) != ord(second[k]):
            return ord(first[k]) < ord(second[k])
    return len(first) < len(second)


def row_before(first, second):
    """Whether the first row is smaller."""
    for k in range(min(len(first), len(second))):
        if first[k] != second[k]:
            return value_before(first[k], second[k])
    return len(first) < len(second)
