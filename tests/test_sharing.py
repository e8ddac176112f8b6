"""The check of tests/sharing.py itself: it would be worth nothing if it let everything pass."""
import unittest

from sharing import check_call, held_in, shared


class Sharing(unittest.TestCase):
    def test_lists_and_dicts_are_found_at_any_depth(self):
        inner, outer = [1], {"a": ()}
        self.assertEqual(len(held_in((inner, [outer]))), 3)
        self.assertTrue(shared((inner,), {"b": [inner]}))
        self.assertFalse(shared([1], [inner]))

    def test_functions_that_break_point_1_are_caught(self):
        kept = []
        wrong = [
            lambda rows: rows, lambda rows: rows.append(1), lambda rows: [rows[0]], lambda rows: ("map", rows[0]),
            lambda rows: kept,
        ]
        for function in wrong[:4]:
            with self.assertRaises(AssertionError):
                check_call(self, function, [[[2], [3]]])
        kept.append(1)
        with self.assertRaises(AssertionError):
            check_call(self, wrong[4], [[[2]]])

    def test_functions_that_keep_it_pass(self):
        for function in (list, len, lambda rows: [list(row) for row in rows][:1]):
            check_call(self, function, [[(2,), (3,)]])


if __name__ == "__main__":
    unittest.main()
