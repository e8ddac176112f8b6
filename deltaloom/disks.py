"""Disks: logs of changes that survive crashes, and stores, which are looms with a log."""

from deltaloom.errors import FormError, SizeError
from deltaloom.written import format_change, parse_change

MODULUS = 4294967291
MOST_CHARACTERS = 65535
# How far a number is shifted for each of its bytes, the highest one first.
TWO_BYTES = (8, 0)
FOUR_BYTES = (24, 16, 8, 0)
# All that may stand in a written form: there is no other way from a byte to its character.
CHARACTERS = (
    " !\"#$&'()*+,-./0123456789:;<=>?@ABCDEFGHIJKLMNOPQRSTUVWXYZ[\\]^_`abcdefghijklmnopqrstuvwxyz{|}~"
)


def check_number(data):
    """Return the check number of a list of bytes."""
    number = 1
    for byte in data:
        number = (number * 31 + byte) % MODULUS
    return number


def encode_change(change):
    """Return the record of a change, a list of bytes."""
    text = format_change(change)
    if len(text) > MOST_CHARACTERS:
        raise SizeError(f"a change of {len(text)} characters")
    data = in_bytes(len(text), TWO_BYTES) + [ord(c) for c in text]
    return data + in_bytes(check_number(data), FOUR_BYTES)


def read_changes(data):
    """Return the changes of the right records at the beginning of the bytes, and how many bytes they take."""
    characters = {ord(c): c for c in CHARACTERS}
    changes = []
    taken = 0
    content = content_at(data, taken)
    while content is not None:
        change = change_of(content, characters)
        if change is None:
            return changes, taken
        changes.append(change)
        taken += len(TWO_BYTES) + len(content) + len(FOUR_BYTES)
        content = content_at(data, taken)
    return changes, taken


def in_bytes(number, shifts):
    """Return the list of the bytes of a number, one for each shift."""
    return [number >> shift & 255 for shift in shifts]


def content_at(data, at):
    """Return the bytes of the text of a whole record with the right check number, or None if none is there."""
    start = at + len(TWO_BYTES)
    if start > len(data):
        return None
    end = start + data[at] * 256 + data[at + 1]
    # A record that is cut off has too few bytes here to be equal to the four.
    if data[end:end + len(FOUR_BYTES)] != in_bytes(check_number(data[at:end]), FOUR_BYTES):
        return None
    return data[start:end]


def change_of(content, characters):
    """Return the change whose written form is in the bytes, or None if they are no such form."""
    if not all([byte in characters for byte in content]):
        return None
    try:
        return parse_change("".join([characters[byte] for byte in content]))
    except FormError:
        return None


class Disk:
    """A list of bytes, of which the first ones are safe from crashes."""

    def __init__(self):
        self.data = []
        self.safe = 0

    def append(self, change):
        """Put the record of a change behind the bytes."""
        self.data.extend(encode_change(change))

    def sync(self):
        """Make all bytes safe."""
        self.safe = len(self.data)

    def crash(self, kept, junk):
        """Keep the safe bytes and some of those behind them; other bytes follow."""
        self.data = self.data[:self.safe + kept] + junk

    def recover(self):
        """Forget all from the first byte on that begins no right record; return the changes before it."""
        changes, taken = read_changes(self.data)
        self.data = self.data[:taken]
        self.safe = taken
        return changes


class Store:
    """A loom whose changes are on a disk."""

    def __init__(self, make, disk):
        self.disk = disk
        self.loom = make()
        for change in disk.recover():
            self.weave(change)

    def feed(self, change):
        """Append a change to the disk, then feed it to the loom."""
        self.disk.append(change)
        self.weave(change)

    def weave(self, change):
        """Feed a change to the loom, one pair after the other."""
        for name, bag in change:
            self.loom.feed(name, bag)
