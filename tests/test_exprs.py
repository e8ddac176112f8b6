import itertools
import unittest

from deltaloom.exprs import evaluate, mapped
from order import value_before
from sharing import check_call

LOWEST, HIGHEST, SPAN = -2147483648, 2147483647, 4294967296
VALUES = [LOWEST, -12, -1, 0, 1, 2, 10, HIGHEST, "", " ", "-1", "0", "1", "10", "2", "a", "ab", "~"]
LONG = "abcdefghijklmnopqrstuvwxyz0123456789!?+-"


def const(value):
    return ("const", value)


def of_two(sign, first, second):
    return evaluate((sign, const(first), const(second)), ())


class ExprCase(unittest.TestCase):
    def check(self, e, row, expected):
        """The value is the expected one, and of the same kind."""
        found = evaluate(e, row)
        self.assertEqual((type(found), found), (type(expected), expected), (e, row))


class Items(ExprCase):
    def test_the_examples_of_the_interface(self):
        self.check(("+", ("at", 0), ("const", 1)), (2147483647,), -2147483648)
        self.check(("cat", ("at", 1), ("at", 5)), (4, "ab"), "ab0")

    def test_items_of_a_row(self):
        for k, item in enumerate((4, "ab", "", -7)):
            self.check(("at", k), (4, "ab", "", -7), item)

    def test_items_that_the_row_does_not_have_are_0(self):
        self.check(("at", 0), (), 0)
        self.check(("at", 1), ("a",), 0)
        self.check(("at", 2), ("a",), 0)
        self.check(("at", 1000000), ("a", "b"), 0)

    def test_rows_of_more_than_8_items(self):
        row = tuple(range(100, 150))
        for k in (0, 7, 8, 9, 15, 16, 49):
            self.check(("at", k), row, 100 + k)
        self.check(("at", 50), row, 0)

    def test_constants(self):
        for value in VALUES + [LONG]:
            self.check(("const", value), (), value)
            self.check(("const", value), (5, "x"), value)


class Calculations(ExprCase):
    def test_plain_results(self):
        self.assertEqual(of_two("+", 2, 3), 5)
        self.assertEqual(of_two("-", 2, 3), -1)
        self.assertEqual(of_two("*", -2, 3), -6)

    def test_sums_beyond_both_ends(self):
        self.assertEqual(of_two("+", HIGHEST, 1), LOWEST)
        self.assertEqual(of_two("+", HIGHEST, HIGHEST), -2)
        self.assertEqual(of_two("+", LOWEST, -1), HIGHEST)
        self.assertEqual(of_two("+", LOWEST, LOWEST), 0)

    def test_differences_beyond_both_ends(self):
        self.assertEqual(of_two("-", HIGHEST, -1), LOWEST)
        self.assertEqual(of_two("-", LOWEST, 1), HIGHEST)
        self.assertEqual(of_two("-", 0, LOWEST), LOWEST)
        self.assertEqual(of_two("-", LOWEST, HIGHEST), 1)

    def test_products_beyond_both_ends(self):
        self.assertEqual(of_two("*", HIGHEST, HIGHEST), 1)
        self.assertEqual(of_two("*", HIGHEST, 2), -2)
        self.assertEqual(of_two("*", LOWEST, -1), LOWEST)
        self.assertEqual(of_two("*", HIGHEST, LOWEST), LOWEST)
        self.assertEqual(of_two("*", 65536, 65536), 0)

    def test_results_at_the_ends_stay(self):
        self.assertEqual(of_two("+", HIGHEST - 1, 1), HIGHEST)
        self.assertEqual(of_two("-", LOWEST + 1, 1), LOWEST)
        self.assertEqual(of_two("*", -65536, 32768), LOWEST)

    def test_texts_count_as_0(self):
        for text in ("", "5", "-1", "a"):
            self.check(("+", const(text), const(7)), (), 7)
            self.check(("+", const(7), const(text)), (), 7)
            self.check(("-", const(7), const(text)), (), 7)
            self.check(("-", const(text), const(7)), (), -7)
            self.check(("-", const(text), const(LOWEST)), (), LOWEST)
            self.check(("*", const(7), const(text)), (), 0)
            self.check(("*", const(text), const(text)), (), 0)
            self.check(("+", const(text), const(text)), (), 0)

    def test_all_pairs(self):
        for first, second in itertools.product(VALUES, repeat=2):
            a, b = [0 if isinstance(value, str) else value for value in (first, second)]
            for sign, exact in (("+", a + b), ("-", a - b), ("*", a * b)):
                found = of_two(sign, first, second)
                self.assertTrue(LOWEST <= found <= HIGHEST)
                self.assertEqual((found - exact) % SPAN, 0, (sign, first, second))

    def test_each_step_is_wrapped(self):
        e = ("<", ("+", const(HIGHEST), const(1)), const(0))
        self.check(e, (), 1)


class Comparisons(ExprCase):
    def test_integers_with_texts(self):
        self.assertEqual(of_two("=", 1, "1"), 0)
        self.assertEqual(of_two("=", "0", 0), 0)
        self.assertEqual(of_two("=", "", 0), 0)
        self.assertEqual(of_two("<", HIGHEST, ""), 1)
        self.assertEqual(of_two("<", "", LOWEST), 0)
        self.assertEqual(of_two("<", 10, "2"), 1)

    def test_values_of_one_kind(self):
        self.assertEqual(of_two("<", 9, 10), 1)
        self.assertEqual(of_two("<", "9", "10"), 0)
        self.assertEqual(of_two("<", "a", "ab"), 1)
        self.assertEqual(of_two("<", "Z", "a"), 1)
        self.assertEqual(of_two("=", "ab", "ab"), 1)
        self.assertEqual(of_two("=", -3, -3), 1)

    def test_all_pairs(self):
        for first, second in itertools.product(VALUES, repeat=2):
            self.check(("<", const(first), const(second)), (), 1 if value_before(first, second) else 0)
            same = isinstance(first, str) == isinstance(second, str) and first == second
            self.check(("=", const(first), const(second)), (), 1 if same else 0)


class Choices(ExprCase):
    def test_the_condition_0(self):
        self.check(("if", const(0), const("a"), const("b")), (), "b")
        self.check(("if", ("at", 3), const("a"), const("b")), ("c",), "b")

    def test_conditions_that_are_not_0(self):
        for value in (1, -1, 2, LOWEST, HIGHEST):
            self.check(("if", const(value), const("a"), const("b")), (), "a")

    def test_a_text_is_not_0(self):
        for text in ("", "0", "a", " "):
            self.check(("if", const(text), const(5), const(6)), (), 5)


class Texts(ExprCase):
    def test_integers_and_texts(self):
        self.check(("cat", const("a"), const("b")), (), "ab")
        self.check(("cat", const(1), const(2)), (), "12")
        self.check(("cat", const("1"), const(0)), (), "10")
        self.check(("cat", const(""), const("")), (), "")

    def test_integers_below_0(self):
        self.check(("cat", const(-3), const(-40)), (), "-3-40")
        self.check(("cat", const(LOWEST), const("x")), (), "-2147483648x")

    def test_texts_are_cut_after_40_characters(self):
        self.assertEqual(len(LONG), 40)
        self.check(("cat", const(LONG), const("z")), (), LONG)
        self.check(("cat", const("z"), const(LONG)), (), "z" + LONG[:39])
        self.check(("cat", const(LONG[:39]), const("yz")), (), LONG[:39] + "y")
        self.check(("cat", const(LONG[:38]), const(-12)), (), LONG[:38] + "-1")
        self.check(("cat", const(LONG), const(LONG)), (), LONG)
        self.check(("cat", const(""), const(LONG)), (), LONG)

    def test_what_stands_behind_a_cut_text_is_cut_off(self):
        self.check(("cat", ("cat", const(LONG), const("z")), const("y")), (), LONG)
        self.check(("cat", const("y"), ("cat", const("z"), const(LONG))), (), "yz" + LONG[:38])

    def test_a_text_of_digits_counts_as_0(self):
        self.check(("+", ("cat", const(1), const(2)), const(1)), (), 1)


class Rows(unittest.TestCase):
    def test_a_list_of_expressions_gives_a_row(self):
        exprs = [("at", 1), ("const", "x"), ("+", ("at", 0), ("const", 1)), ("at", 9)]
        self.assertEqual(mapped(exprs, (4, "ab")), ("ab", "x", 5, 0))
        self.assertIsInstance(mapped(exprs, ()), tuple)

    def test_no_expressions_give_the_empty_row(self):
        self.assertEqual(mapped([], (1, 2)), ())

    def test_rows_of_more_than_8_items(self):
        exprs = [("at", k) for k in range(11, -1, -1)]
        self.assertEqual(mapped(exprs, tuple(range(12))), tuple(range(11, -1, -1)))

    def test_deep_expressions(self):
        left = right = ("at", 0)
        for _ in range(5000):
            left, right = ("+", left, ("const", 1)), ("-", ("const", 1), right)
        self.assertEqual(mapped([left, right], (7,)), (5007, 7))

    def test_nothing_is_changed_or_shared(self):
        e = ("if", ("at", 0), ("cat", ("at", 1), ("const", "x")), ("const", 5))
        for row in ((), (1, "a"), (0,)):
            check_call(self, evaluate, [e, row])
            check_call(self, mapped, [[e, ("at", 1)], row])
        check_call(self, mapped, [[], (1,)])


if __name__ == "__main__":
    unittest.main()
