"""Values and rows: their limits and their order."""

SPAN = 4294967296
LOWEST = -2147483648
LONGEST_TEXT = 40
LONGEST_ROW = 8


def wrap(n):
    """Return the integer of a value's range that differs from n by a multiple of the span."""
    return (n - LOWEST) % SPAN + LOWEST


def rank(value):
    """Return a key that orders values: integers ascending, then texts by their characters."""
    # The number in front decides between an integer and a text, which Python cannot compare.
    if isinstance(value, str):
        return 1, value
    return 0, value


def row_rank(row):
    """Return a key that orders rows value by value, a beginning of a row before the row."""
    return tuple([rank(value) for value in row])
