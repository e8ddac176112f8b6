"""Point 22 spelled out with regular expressions, to compare the program with."""
import re

from order import row_before

INTEGER = r"(?:0|-?[1-9][0-9]{0,29})"
TEXT = r'"[ !#$&-~]{0,40}"'
VALUE = rf"(?:{INTEGER}|{TEXT})"
ROW = rf"\((?:{VALUE}(?:, {VALUE}){{0,7}})?\)"
PAIR = rf"{ROW}: {INTEGER}"
BAG = rf"\{{(?:{PAIR}(?:, {PAIR})*)?\}}"
NAMED = rf"[a-z]{{1,12}} {BAG}"
CHANGE = rf"(?:{NAMED}(?:; {NAMED})*)?"


def matches(pattern, text):
    return re.fullmatch(pattern, text, re.ASCII) is not None


def row_in(text):
    """The row that a text of the form ROW shows."""
    words = re.findall(VALUE, text[1:-1])
    return tuple(word[1:-1] if word[0] == '"' else int(word) for word in words)


def is_row(text):
    """Whether a text is the written form of a row."""
    if not matches(ROW, text):
        return False
    return all(isinstance(value, str) or -2 ** 31 <= value < 2 ** 31 for value in row_in(text))


def is_bag(text):
    """Whether a text is the written form of a bag."""
    if not matches(BAG, text):
        return False
    pairs = re.findall(rf"({ROW}): ({INTEGER})", text)
    rows = [row_in(row) for row, count in pairs]
    ordered = all(row_before(rows[k], rows[k + 1]) for k in range(len(rows) - 1))
    return ordered and all(is_row(row) and count != "0" for row, count in pairs)


def is_change(text):
    """Whether a text is the written form of a change."""
    if not matches(CHANGE, text):
        return False
    return all(is_bag(bag) for bag in re.findall(rf"[a-z]{{1,12}} ({BAG})", text))
