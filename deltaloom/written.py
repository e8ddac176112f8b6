"""Written forms: texts that stand for rows, bags and changes, each in one way only."""

from deltaloom.errors import FormError
from deltaloom.values import LONGEST_ROW, LONGEST_TEXT, row_rank, wrap

DIGITS = "0123456789"
MOST_DIGITS = 30
LONGEST_NAME = 12
# A number, since the sign itself may stand in no string of the program.
PERCENT_SIGN = 37


def format_value(value):
    """Return the written form of a value."""
    return f'"{value}"' if isinstance(value, str) else str(value)


def format_row(row):
    """Return the written form of a row."""
    return "(" + ", ".join([format_value(value) for value in row]) + ")"


def format_bag(bag):
    """Return the written form of a bag."""
    return "{" + ", ".join([f"{format_row(row)}: {count}" for row, count in bag]) + "}"


def format_change(change):
    """Return the written form of a change of the inputs."""
    return "; ".join([f"{name} {format_bag(bag)}" for name, bag in change])


def parse_row(text):
    """Return the row with the written form."""
    return all_of(text, read_row)


def parse_bag(text):
    """Return the bag with the written form."""
    return all_of(text, read_bag)


def parse_change(text):
    """Return the change with the written form."""
    if text == "":
        return []
    return all_of(text, read_change)


# A function read_.. takes a text and the place where something begins in it. It returns the pair of what it
# has read and the place behind it, or raises FormError.


def all_of(text, read_thing):
    """Return what a function reads if it is the whole text."""
    thing, at = read_thing(text, 0)
    require(at == len(text), at)
    return thing


def require(right, at):
    """Raise FormError unless the text is right at a place."""
    if not right:
        raise FormError(f"not a written form, at character {at}")


def behind(text, at, word):
    """Return the place behind a word that must stand at a place."""
    require(text.startswith(word, at), at)
    return at + len(word)


def read_series(text, at, separator, read_item):
    """Read one or more items with the separator between them, as a list."""
    item, at = read_item(text, at)
    items = [item]
    while text.startswith(separator, at):
        item, at = read_item(text, at + len(separator))
        items.append(item)
    return items, at


def read_enclosed(text, at, ends, read_item):
    """Read items between an opening and a closing character, as a list, which may be empty."""
    opening, closing = ends
    start = behind(text, at, opening)
    if text.startswith(closing, start):
        return [], start + 1
    items, end = read_series(text, start, ", ", read_item)
    return items, behind(text, end, closing)


def read_integer(text, at):
    """Read an integer of any sign."""
    start = at + 1 if text.startswith("-", at) else at
    end = start
    while end < len(text) and text[end] in DIGITS:
        end += 1
    require(1 <= end - start <= MOST_DIGITS, at)
    # Neither leading zeros nor a minus before 0: a 0 in front is all that there is.
    require(text[start] != "0" or end == at + 1, at)
    return int(text[at:end]), end


def read_text(text, at):
    """Read a text in quotes."""
    start = behind(text, at, '"')
    end = text.find('"', start)
    require(0 <= end - start <= LONGEST_TEXT, at)
    found = text[start:end]
    require(all([" " <= c <= "~" and ord(c) != PERCENT_SIGN for c in found]), at)
    return found, end + 1


def read_value(text, at):
    """Read a value."""
    if text.startswith('"', at):
        return read_text(text, at)
    number, end = read_integer(text, at)
    require(wrap(number) == number, at)
    return number, end


def read_row(text, at):
    """Read a row."""
    values, end = read_enclosed(text, at, "()", read_value)
    require(len(values) <= LONGEST_ROW, at)
    return tuple(values), end


def read_pair(text, at):
    """Read a row with its count in a bag."""
    row, end = read_row(text, at)
    count, end = read_integer(text, behind(text, end, ": "))
    require(count != 0, at)
    return (row, count), end


def read_bag(text, at):
    """Read a bag."""
    pairs, end = read_enclosed(text, at, "{}", read_pair)
    ranks = [row_rank(row) for row, _ in pairs]
    require(all([first < second for first, second in zip(ranks, ranks[1:])]), at)
    return pairs, end


def read_name(text, at):
    """Read a name."""
    end = at
    while end < len(text) and "a" <= text[end] <= "z":
        end += 1
    require(1 <= end - at <= LONGEST_NAME, at)
    return text[at:end], end


def read_named_bag(text, at):
    """Read a name with its bag in a change."""
    name, end = read_name(text, at)
    bag, end = read_bag(text, behind(text, end, " "))
    return (name, bag), end


def read_change(text, at):
    """Read a change that has pairs."""
    return read_series(text, at, "; ", read_named_bag)
