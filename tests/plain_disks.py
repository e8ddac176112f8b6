"""Points 19 and 20 spelled out with Python's bytes, to compare the program with."""
from deltaloom.written import format_change, parse_change
from plain_written import is_change


def check_of(data):
    """The check number: the bytes are the digits of a number to the base 31, behind a 1."""
    size = len(data)
    return (31 ** size + sum(byte * 31 ** (size - 1 - k) for k, byte in enumerate(data))) % 4294967291


def with_check(data):
    """The bytes and their check number."""
    return list(data) + list(check_of(list(data)).to_bytes(4, "big"))


def record_of_text(text):
    """The record of a text, whatever it is."""
    data = text.encode("latin-1")
    return with_check(len(data).to_bytes(2, "big") + data)


def record_of(change):
    return record_of_text(format_change(change))


def changes_in(data):
    """The changes of the records at the beginning of the bytes, and the number of bytes that they take."""
    found, at = [], 0
    while len(data) - at >= 6:
        size = int.from_bytes(bytes(data[at:at + 2]), "big")
        record = data[at:at + size + 6]
        text = bytes(record[2:-4]).decode("latin-1")
        if len(record) < size + 6 or with_check(record[:-4]) != record or not is_change(text):
            break
        found.append(parse_change(text))
        at += size + 6
    return found, at
