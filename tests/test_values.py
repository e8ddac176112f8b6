import itertools
import unittest

from deltaloom.values import rank, row_rank, wrap
from order import row_before, value_before

LOWEST, HIGHEST, SPAN = -2147483648, 2147483647, 4294967296


class Wrap(unittest.TestCase):
    def test_integers_in_the_range_stay(self):
        for n in (0, 1, -1, 12345, -12345, HIGHEST, HIGHEST - 1, LOWEST, LOWEST + 1):
            self.assertEqual(wrap(n), n)

    def test_beside_the_ends(self):
        self.assertEqual(wrap(HIGHEST + 1), LOWEST)
        self.assertEqual(wrap(HIGHEST + 2), LOWEST + 1)
        self.assertEqual(wrap(LOWEST - 1), HIGHEST)
        self.assertEqual(wrap(LOWEST - 2), HIGHEST - 1)

    def test_whole_spans_give_zero(self):
        for times in (1, -1, 2, -2, 10 ** 30, -(10 ** 30)):
            self.assertEqual(wrap(times * SPAN), 0)
            self.assertEqual(wrap(times * SPAN + HIGHEST), HIGHEST)
            self.assertEqual(wrap(times * SPAN + LOWEST), LOWEST)

    def test_far_outside_the_range(self):
        for n in (10 ** 12, -(10 ** 12), 3 ** 200, -(3 ** 200), HIGHEST * HIGHEST, LOWEST * LOWEST, HIGHEST * LOWEST):
            self.assertTrue(LOWEST <= wrap(n) <= HIGHEST, n)
            self.assertEqual((wrap(n) - n) // SPAN * SPAN, wrap(n) - n)

    def test_known_products(self):
        self.assertEqual(wrap(HIGHEST * HIGHEST), 1)
        self.assertEqual(wrap(LOWEST * LOWEST), 0)
        self.assertEqual(wrap(HIGHEST * LOWEST), LOWEST)
        self.assertEqual(wrap(65536 * 32768), LOWEST)


# In ascending order.
VALUES = [
    LOWEST, LOWEST + 1, -10, -2, -1, 0, 1, 2, 9, 10, HIGHEST - 1, HIGHEST,
    "", " ", "  ", "!", "-1", "0", "1", "10", "2", "9", "A", "AB", "B", "Z", "_", "a", "aB", "aa", "b", "z", "~", "~~",
]

# In ascending order.
ROWS = [
    (), (-1,), (0,), (0, -5), (0, 0), (0, 0, 0), (0, "", 7), (0, "a"), (1,), (1, 2, 3), (1, "", ""), (2,), (10,),
    ("",), ("", ""), (" ",), ("1",), ("1", 0), ("1", "1"), ("a",), ("a", LOWEST), ("a", HIGHEST), ("a", ""),
    ("a", "a", "a"), ("aa",), ("b", 0), ("b", 0, 0, 0, 0, 0, 0, 0), ("b", 0, 0, 0, 0, 0, 0, 0, 0), ("b", 1), ("~" * 40,),
]


class Order(unittest.TestCase):
    def check_keys(self, items, key, before):
        for first, second in itertools.product(items, repeat=2):
            self.assertEqual(key(first) < key(second), before(first, second), (first, second))
            self.assertEqual(key(first) == key(second), first == second, (first, second))

    def test_values_are_compared_as_the_document_says(self):
        self.check_keys(VALUES, rank, value_before)

    def test_rows_are_compared_as_the_document_says(self):
        self.check_keys(ROWS, row_rank, row_before)

    def test_values_sort(self):
        self.assertEqual(sorted(reversed(VALUES), key=rank), VALUES)

    def test_rows_sort(self):
        self.assertEqual(sorted(reversed(ROWS), key=row_rank), ROWS)

    def test_integers_stand_before_texts(self):
        self.assertEqual(sorted(["0", HIGHEST, "", -1], key=rank), [-1, HIGHEST, "", "0"])

    def test_integers_are_not_compared_as_texts(self):
        self.assertEqual(sorted([10, 9, -10, -9], key=rank), [-10, -9, 9, 10])
        self.assertEqual(sorted(["10", "9", "-10", "-9"], key=rank), ["-10", "-9", "10", "9"])

    def test_the_beginning_of_a_row_stands_before_it(self):
        rows = [("a", 1, "b")[:k] for k in range(4)]
        self.assertEqual(sorted(reversed(rows), key=row_rank), rows)

    def test_an_earlier_value_decides_before_the_length(self):
        self.assertEqual(sorted([(2,), (1, 9, 9)], key=row_rank), [(1, 9, 9), (2,)])

    def test_all_short_rows_over_a_few_values(self):
        values = (-1, 0, "", "0", "a")
        rows = [row for size in range(3) for row in itertools.product(values, repeat=size)]
        self.check_keys(rows, row_rank, row_before)


if __name__ == "__main__":
    unittest.main()
