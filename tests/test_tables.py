import itertools
import unittest

from deltaloom.tables import Table

ROWS = [(), (1,), ("a",), (1, 2), (1, "a"), (2, 1), (2, 2), (1, 2, 1), (1, 2, 3)]


class Tables(unittest.TestCase):
    def check_all(self, table, rows):
        """All questions give what a search among the rows gives."""
        self.assertEqual(sorted(table.rows, key=repr), sorted(rows, key=repr))
        for size in range(4):
            for many in range(size + 1):
                for places in itertools.combinations(range(size), many):
                    for items in itertools.product((1, 2, "a"), repeat=many):
                        wanted = [row for row in rows if len(row) == size and tuple(row[k] for k in places) == items]
                        self.assertEqual(sorted(table.matching(size, places, items), key=repr), sorted(wanted, key=repr))

    def test_rows_are_found(self):
        self.check_all(Table(ROWS), ROWS)
        self.check_all(Table([]), [])

    def test_rows_that_were_put_are_found(self):
        table = Table(ROWS[:4])
        self.check_all(table, ROWS[:4])
        for k in range(4, len(ROWS)):
            table.put(ROWS[k])
            self.check_all(table, ROWS[:k + 1])

    def test_a_row_that_is_put_twice_is_found_once(self):
        table = Table(ROWS)
        self.check_all(table, ROWS)
        for row in ROWS:
            table.put(row)
        self.check_all(table, ROWS)

    def test_a_table_takes_nothing_of_what_it_was_made_from(self):
        rows = {(1,): True}
        table = Table(rows)
        table.put((2,))
        table.matching(1, (), ()).clear()
        self.assertEqual(rows, {(1,): True})
        self.check_all(table, [(1,), (2,)])


if __name__ == "__main__":
    unittest.main()
