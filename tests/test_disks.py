import copy
import itertools
import random
import unittest

import chance
from deltaloom.bags import make_bag, plus
from deltaloom.disks import Disk, Store, check_number, encode_change, read_changes
from deltaloom.errors import LoomError, SizeError
from deltaloom.looms import Loom
from deltaloom.programs import evaluate_program
from deltaloom.written import format_change
from plain_disks import changes_in, check_of, record_of, record_of_text, with_check
from sharing import check_call, held_in, shared, spoil

ONE = [("edge", [((1, 2), 1)])]
TWO = [("a", [((), -1), (("x",), 2)]), ("b", []), ("a", [((5,), 1)])]
NONE = []
CHANGES = [ONE, TWO, NONE, [("zz", [(("}; b {", '": '.replace('"', "'")), 3)])]]


def change_of_size(size):
    """A change whose text has this many characters, at least 200."""
    # Each pair takes 56 characters with a text of 40 and the comma behind it; two shorter texts make up for the rest.
    many = (size - 2) // 56 + 1
    less = 56 * many + 2 - size
    sizes = [40 - min(less, 40), 40 - max(less - 40, 0)] + [40] * (many - 2)
    return [("a", [((10000 + k, "x" * length), 1) for k, length in enumerate(sizes)])]


def written(*changes):
    """The bytes of the records of the changes."""
    return [byte for change in changes for byte in record_of(change)]


def disk_of(safe, unsafe):
    """A disk with some changes that are safe and some that are not."""
    disk = Disk()
    for change in safe:
        disk.append(change)
    disk.sync()
    for change in unsafe:
        disk.append(change)
    return disk


class CheckNumber(unittest.TestCase):
    def test_small_lists(self):
        self.assertEqual(check_number([]), 1)
        self.assertEqual(check_number([0]), 31)
        self.assertEqual(check_number([1]), 32)
        self.assertEqual(check_number([255]), 286)
        self.assertEqual(check_number([0, 0]), 961)
        self.assertEqual(check_number([1, 2]), 994)
        self.assertEqual(check_number([2, 1]), 1024)

    def test_long_lists(self):
        source = random.Random(44)
        for size in (5, 6, 7, 8, 20, 100, 1000, 3000):
            for data in ([0] * size, [255] * size, [source.randrange(256) for _ in range(size)]):
                self.assertEqual(check_number(data), check_of(data))
                self.assertTrue(0 <= check_number(data) < 4294967291)

    def test_numbers_beside_the_modulus(self):
        # Six bytes whose number, without the last remainder, is the modulus itself.
        rest, data = 4294967291 - 31 ** 6, []
        for k in range(5, -1, -1):
            data.append(rest // 31 ** k)
            rest -= data[-1] * 31 ** k
        self.assertEqual(check_number(data), 0)
        last = data.pop()
        for step in (-2, -1, 0, 1, 2):
            self.assertEqual(check_number(data + [last + step]), step if step >= 0 else 4294967291 + step)

    def test_each_byte_counts(self):
        data = [7, 0, 255, 13, 0, 0, 200]
        for k, byte in itertools.product(range(len(data)), (0, 1, 254, 255)):
            other = data[:k] + [byte] + data[k + 1:]
            self.assertEqual(check_number(other) == check_number(data), other == data)


class Records(unittest.TestCase):
    def test_the_bytes_one_by_one(self):
        self.assertEqual(encode_change([]), [0, 0, 0, 0, 3, 193])
        text = [ord(c) for c in "a {}"]
        self.assertEqual(text, [97, 32, 123, 125])
        number = 1
        for byte in [0, 4] + text:
            number = (number * 31 + byte) % 4294967291
        wanted = [0, 4, 97, 32, 123, 125, number // 2 ** 24, number // 2 ** 16 % 256, number // 256 % 256, number % 256]
        self.assertEqual(encode_change([("a", [])]), wanted)

    def test_known_bytes(self):
        found = encode_change(ONE)
        self.assertEqual(found[:2], [0, len("edge {(1, 2): 1}")])
        self.assertEqual(found[2:-4], [ord(c) for c in "edge {(1, 2): 1}"])
        self.assertEqual(found[-4:], [69, 124, 167, 21])

    def test_records_of_all_sizes(self):
        source = random.Random(45)
        for change in CHANGES + [chance.odd_change(source, 6) for _ in range(100)]:
            self.assertEqual(encode_change(change), record_of(change))
            self.assertTrue(all(0 <= byte <= 255 for byte in encode_change(change)))

    def test_the_higher_byte_of_the_length_comes_first(self):
        for size in (255, 256, 257, 511, 512, 65279, 65280, 65534):
            self.assertEqual(encode_change(change_of_size(size))[:2], [size // 256, size % 256])

    def test_65535_and_65536_characters(self):
        change = change_of_size(65535)
        self.assertEqual(len(format_change(change)), 65535)
        found = encode_change(change)
        self.assertEqual((len(found), found[:2]), (65541, [255, 255]))
        self.assertEqual(read_changes(found), ([change], 65541))
        for size in (65536, 65537, 70000):
            change = change_of_size(size)
            self.assertEqual(len(format_change(change)), size)
            with self.assertRaises(SizeError) as caught:
                encode_change(change)
            self.assertIsInstance(caught.exception, LoomError)


class Reading(unittest.TestCase):
    def check(self, data, changes, taken):
        self.assertEqual(read_changes(data), (changes, taken))
        self.assertEqual(changes_in(data), (changes, taken))
        disk = Disk()
        disk.crash(0, data)
        self.assertEqual(disk.recover(), changes)
        self.assertEqual((disk.data, disk.safe), (data[:taken], taken))

    def test_records_one_after_the_other(self):
        self.check([], [], 0)
        for many in range(1, 5):
            data = written(*CHANGES[:many])
            self.check(data, CHANGES[:many], len(data))
        self.check(written(NONE, NONE, ONE), [NONE, NONE, ONE], 12 + len(written(ONE)))

    def test_records_that_are_cut_off(self):
        data = written(*CHANGES)
        ends = [len(written(*CHANGES[:k])) for k in range(5)]
        for size in range(len(data) + 1):
            whole = max(k for k in range(5) if ends[k] <= size)
            self.check(data[:size], CHANGES[:whole], ends[whole])

    def test_a_wrong_byte_anywhere(self):
        data, first = written(ONE, TWO), len(written(ONE))
        for k in range(len(data)):
            for byte in {0, 255, (data[k] + 1) % 256, (data[k] - 1) % 256} - {data[k]}:
                wrong = data[:k] + [byte] + data[k + 1:]
                found = [] if k < first else [ONE]
                self.check(wrong, found, len(written(*found)))

    def test_what_comes_behind_a_wrong_record_is_not_read(self):
        wrong = written(ONE)[:-1] + [0]
        self.check(written(TWO) + wrong + written(TWO), [TWO], len(written(TWO)))
        self.check([1] + written(TWO), [], 0)

    def test_a_right_check_number_over_a_text_that_is_no_written_form(self):
        for text in (
            " ", "a", "a{}", "a {(1): 01}", "a {(1): 0}", "a {(2): 1, (1): 1}", "a {};", "; ", "A {}", "abcdefghijklm {}", "{}",
            'a {("%"): 1}', 'a {("\n"): 1}', 'a {("\x7f"): 1}', 'a {("\xe9"): 1}', "\xe9 {}", "\0", "\n", "a {}\n", "\xff" * 300,
            'a {("' + "x" * 41 + '"): 1}', "a {(2147483648): 1}", "a {(0, 1, 2, 3, 4, 5, 6, 7, 8): 1}", "a {(1): " + "1" * 31 + "}",
        ):
            self.check(record_of_text(text), [], 0)
            self.check(written(ONE) + record_of_text(text) + written(TWO), [ONE], len(written(ONE)))

    def test_every_byte_in_a_text(self):
        for byte in range(256):
            data = with_check([0, 10] + [ord(c) for c in 'a {("'] + [byte] + [ord(c) for c in '"): 1}'])
            data = with_check([0, len(data) - 6] + data[2:-4])
            good = 32 <= byte <= 126 and byte not in (34, 37)
            self.check(data, [[("a", [((chr(byte),), 1)])]] if good else [], len(data) if good else 0)

    def test_a_check_number_with_its_bytes_turned_round(self):
        data = written(ONE)
        self.check(data[:-4] + data[:-5:-1], [], 0)
        length = data[1::-1]
        self.check(with_check(length + data[2:-4]), [], 0)

    def test_bytes_that_are_no_record(self):
        source = random.Random(46)
        self.check([0] * 100, [], 0)
        self.check([255] * 100, [], 0)
        for _ in range(200):
            data = [source.randrange(256) for _ in range(source.randint(0, 40))]
            self.check(data, *changes_in(data))

    def test_random_changes(self):
        source = random.Random(47)
        for _ in range(100):
            changes = [chance.odd_change(source) for _ in range(source.randint(0, 4))]
            data = written(*changes)
            self.check(data, changes, len(data))
            rest = [source.randrange(256) for _ in range(source.randint(1, 10))]
            self.check(data + rest, changes, len(data))


class Disks(unittest.TestCase):
    def test_a_new_disk(self):
        disk = Disk()
        self.assertEqual((disk.data, disk.safe), ([], 0))
        self.assertEqual(disk.recover(), [])
        self.assertEqual((disk.data, disk.safe), ([], 0))

    def test_append_and_sync(self):
        disk = Disk()
        disk.append(ONE)
        self.assertEqual((disk.data, disk.safe), (written(ONE), 0))
        disk.append(TWO)
        self.assertEqual((disk.data, disk.safe), (written(ONE, TWO), 0))
        disk.sync()
        self.assertEqual((disk.data, disk.safe), (written(ONE, TWO), len(written(ONE, TWO))))
        disk.append(NONE)
        self.assertEqual((disk.data, disk.safe), (written(ONE, TWO, NONE), len(written(ONE, TWO))))

    def test_a_change_that_is_too_long(self):
        disk = disk_of([ONE], [TWO])
        with self.assertRaises(SizeError):
            disk.append(change_of_size(65536))
        self.assertEqual((disk.data, disk.safe), (written(ONE, TWO), len(written(ONE))))
        disk.append(change_of_size(65535))
        self.assertEqual(disk.recover(), [ONE, TWO, change_of_size(65535)])

    def test_a_crash_keeps_the_safe_bytes_and_the_first_ones_behind_them(self):
        data, safe = written(ONE, TWO, NONE), len(written(ONE))
        junk = [9, 8, 7]
        for kept in range(len(data) + 5):
            for other in ([], junk):
                disk = disk_of([ONE], [TWO, NONE])
                disk.crash(kept, other)
                self.assertEqual((disk.data, disk.safe), (data[:safe + kept] + other, safe))

    def test_recovery_after_a_crash(self):
        """What was kept gives whole changes, what comes behind it gives none unless it makes up a right record."""
        safe, unsafe = [ONE, TWO], [NONE, TWO, CHANGES[3]]
        data = written(*safe, *unsafe)
        junks = [[], [0], [255] * 9, written(ONE)[:5], written(ONE)[:-1], [1] + written(ONE)]
        for kept, junk in itertools.product(range(len(written(*unsafe)) + 3), junks):
            disk = disk_of(safe, unsafe)
            disk.crash(kept, junk)
            left = data[:len(written(*safe)) + kept] + junk
            changes, taken = changes_in(left)
            self.assertEqual(disk.recover(), changes)
            self.assertEqual((disk.data, disk.safe), (left[:taken], taken))
            self.assertEqual(changes, (safe + unsafe)[:len(changes)])
            self.assertGreaterEqual(len(changes), len(safe))
            self.check_again(disk, changes)

    def check_again(self, disk, changes):
        """A second recovery gives the same and changes nothing, and the disk can go on."""
        data, safe = list(disk.data), disk.safe
        self.assertEqual(disk.recover(), changes)
        self.assertEqual((disk.data, disk.safe), (data, safe))
        disk.crash(0, [])
        self.assertEqual((disk.data, disk.safe), (data, safe))
        disk.append(TWO)
        self.assertEqual(read_changes(disk.data), (changes + [TWO], len(disk.data)))

    def test_nothing_is_kept(self):
        disk = disk_of([], [ONE, TWO])
        disk.crash(0, [])
        self.assertEqual((disk.data, disk.safe, disk.recover()), ([], 0, []))

    def test_whole_records_and_more_than_there_is_are_kept(self):
        for kept in (len(written(TWO)), len(written(TWO)) + 1, 10 ** 9):
            disk = disk_of([ONE], [TWO])
            disk.crash(kept, [])
            self.assertEqual(disk.recover(), [ONE, TWO])
            self.assertEqual(disk.safe, len(written(ONE, TWO)))

    def test_a_right_record_behind_what_was_kept(self):
        disk = disk_of([ONE], [TWO])
        disk.crash(0, written(NONE, ONE))
        self.assertEqual(disk.recover(), [ONE, NONE, ONE])
        disk = disk_of([ONE], [TWO])
        disk.crash(5, written(TWO)[5:])
        self.assertEqual(disk.recover(), [ONE, TWO])
        disk = disk_of([ONE], [TWO])
        disk.crash(5, written(ONE))
        self.assertEqual(disk.recover(), [ONE])

    def test_a_disk_of_its_own_bytes(self):
        disk = disk_of([ONE], [TWO])
        disk.crash(10 ** 6, disk.data)
        self.assertEqual(disk.recover(), [ONE, TWO, ONE, TWO])

    def test_two_disks_have_nothing_in_common(self):
        one, other = Disk(), Disk()
        one.append(ONE)
        self.assertEqual((other.data, other.safe), ([], 0))


X, Y, Z = ("var", 0), ("var", 1), ("var", 2)
PROGRAM = ("program", ["edge", "cost"], [
    ("path", "rules", [
        ([X, Y], [("yes", "edge", [X, Y])]), ([X, Z], [("yes", "path", [X, Y]), ("yes", "edge", [Y, Z])]),
    ]),
    ("many", "term", ("fold", [("at", 0)], "count", ("at", 0), ("old", "path"))),
    ("sum", "term", ("fold", [], "sum", ("at", 0), ("plus", ("old", "cost"), ("old", "many")))),
])


def new_loom():
    return Loom(PROGRAM)


def sums_of(changes):
    """The bags of the inputs after the changes."""
    found = {"edge": [], "cost": []}
    for change in changes:
        for name, bag in change:
            found[name] = plus(found[name], bag)
    return found


def random_change(source):
    """A change of the inputs of PROGRAM; a name may come more than once."""
    change = []
    for _ in range(source.randint(0, 3)):
        name = source.choice(("edge", "cost"))
        rows = [tuple(source.randint(1, 4) for _ in range(2 if name == "edge" else 1)) for _ in range(source.randint(0, 3))]
        change.append((name, make_bag([(row, source.choice((-1, 1, 1, 2))) for row in rows])))
    return change


class StoreCase(unittest.TestCase):
    def check_all(self, store, changes):
        """The store's inputs and views are those of the plain evaluation for the changes."""
        inputs = sums_of(changes)
        wanted = evaluate_program(PROGRAM, inputs)
        for name in wanted:
            self.assertEqual(store.loom.read(name), wanted[name])
        for name in inputs:
            self.assertEqual(store.loom.read(name), inputs[name])


class Stores(StoreCase):
    def test_the_attributes_are_the_disk_and_the_loom(self):
        disk, made = Disk(), []

        def make():
            made.append(new_loom())
            return made[-1]

        store = Store(make, disk)
        self.assertIs(store.disk, disk)
        self.assertEqual(len(made), 1)
        self.assertIs(store.loom, made[0])

    def test_feeding(self):
        store = Store(new_loom, Disk())
        self.check_all(store, [])
        changes = [
            [("edge", [((1, 2), 1)])], [], [("edge", [((2, 3), 1)]), ("cost", [((5,), 2)])],
            [("edge", [((3, 4), 1)]), ("edge", [((3, 4), -1)]), ("edge", [((4, 1), 1)])], [("cost", [])],
        ]
        for k, change in enumerate(changes):
            store.feed(change)
            self.assertEqual((store.disk.data, store.disk.safe), (written(*changes[:k + 1]), 0))
            self.check_all(store, changes[:k + 1])

    def test_a_change_that_is_too_long_is_neither_appended_nor_fed(self):
        store = Store(new_loom, Disk())
        store.feed(ONE)
        with self.assertRaises(SizeError):
            store.feed([("edge", [((1, 3), 1)]), ("cost", [((k, "x" * 40), 1) for k in range(2000)])])
        self.assertEqual(store.disk.data, written(ONE))
        self.check_all(store, [ONE])

    def test_a_store_from_a_disk(self):
        for many in range(4):
            changes = [ONE, [("cost", [((1,), 1)]), ("cost", [((1,), 2)])], [("edge", [((2, 1), 1)])]][:many]
            disk = disk_of(changes[:1], changes[1:])
            store = Store(new_loom, disk)
            self.check_all(store, changes)
            self.assertEqual((disk.data, disk.safe), (written(*changes), len(written(*changes))))

    def test_a_store_from_a_disk_that_has_crashed(self):
        safe, unsafe = [ONE, [("cost", [((1,), 1)])]], [[("edge", [((2, 3), 1)]), ("cost", [((2,), 1)])], [("edge", [((1, 2), -1)])]]
        for kept, junk in itertools.product(range(len(written(*unsafe)) + 2), ([], [0, 4, 97], [0] * 8, [255] * 3)):
            disk = disk_of(safe, unsafe)
            disk.crash(kept, junk)
            whole = len([k for k in (1, 2) if len(written(*unsafe[:k])) <= kept])
            store = Store(new_loom, disk)
            self.check_all(store, safe + unsafe[:whole])
            self.assertEqual(disk.data, written(*safe, *unsafe[:whole]))
            store.feed(ONE)
            self.check_all(store, safe + unsafe[:whole] + [ONE])

    def test_the_order_of_the_changes_on_the_disk(self):
        store = Store(new_loom, Disk())
        changes = [[("edge", [((k, k + 1), 1)])] for k in range(5)]
        for change in changes:
            store.feed(change)
        self.assertEqual(store.disk.recover(), changes)


class AnyOrder(StoreCase):
    """Whatever is fed, refreshed, read, crashed and recovered in whatever order (point 1)."""

    def test_random_stories(self):
        source = random.Random(48)
        for _ in range(60):
            self.tell(source)

    def tell(self, source):
        disk = Disk()
        store, changes, safe = Store(new_loom, disk), [], 0
        for _ in range(25):
            action = source.choice(("feed", "feed", "feed", "sync", "refresh", "read", "crash", "again"))
            if action == "feed":
                change = random_change(source)
                store.feed(change)
                changes.append(copy.deepcopy(change))
                spoil(change)
            elif action == "sync":
                disk.sync()
                safe = len(changes)
            elif action == "refresh":
                store.loom.refresh(source.choice(("path", "many", "sum")))
            elif action == "read":
                name = source.choice(("path", "many", "sum"))
                self.assertEqual(store.loom.read(name), evaluate_program(PROGRAM, sums_of(changes))[name])
            else:
                changes = self.crash(source, disk, changes, safe) if action == "crash" else changes
                safe = len(changes)
                store = Store(new_loom, disk)
        self.check_all(store, changes)
        self.assertEqual(read_changes(disk.data), (changes, len(disk.data)))

    def crash(self, source, disk, changes, safe):
        """Let the disk crash, and return the changes that are left."""
        ends = [len(written(*changes[:k])) for k in range(len(changes) + 1)]
        kept = source.randint(0, ends[-1] - ends[safe] + 5)
        disk.crash(kept, source.choice(([], [], [0], [255, 255, 1], written(ONE)[:-2])))
        left = [k for k in range(len(ends)) if ends[k] <= ends[safe] + kept]
        return changes[:left[-1]]


class Sharing(StoreCase):
    def test_functions_change_and_share_nothing(self):
        source = random.Random(49)
        for change in CHANGES + [chance.odd_change(source) for _ in range(20)]:
            check_call(self, encode_change, [change])
            check_call(self, check_number, [encode_change(change)])
            check_call(self, read_changes, [encode_change(change) + written(ONE) + [1, 2]])

    def test_what_is_given_to_a_disk_may_be_changed_afterwards(self):
        disk, change, junk = Disk(), copy.deepcopy(TWO), written(ONE)
        disk.append(change)
        self.assertEqual(change, TWO)
        spoil(change)
        disk.crash(10 ** 6, junk)
        self.assertEqual(junk, written(ONE))
        junk.clear()
        self.assertEqual(disk.data, written(TWO, ONE))
        junk = [0, 1]
        disk.crash(10 ** 6, junk)
        disk.recover()
        disk.append(ONE)
        self.assertEqual(junk, [0, 1])

    def test_a_crash_that_keeps_nothing_takes_no_list(self):
        disk, junk = Disk(), []
        disk.crash(0, junk)
        disk.append(ONE)
        self.assertEqual(junk, [])

    def test_what_a_disk_returns_may_be_changed_afterwards(self):
        disk = disk_of([TWO], [ONE])
        found = disk.recover()
        self.assertFalse(shared(found, disk.data))
        spoil(found)
        self.assertEqual(disk.recover(), [TWO, ONE])

    def test_what_is_given_to_a_store_may_be_changed_afterwards(self):
        store, change = Store(new_loom, Disk()), [("edge", [((1, 2), 1)]), ("cost", [((7,), 1)])]
        given = copy.deepcopy(change)
        store.feed(given)
        self.assertEqual(given, change)
        held = held_in(given)
        spoil(given)
        self.check_all(store, [change])
        self.assertFalse(shared(held, [store.disk.data, store.loom.read("edge"), store.loom.read("path")]))
        store.loom.read("path").clear()
        self.check_all(store, [change])


if __name__ == "__main__":
    unittest.main()
