import itertools
import unittest

from deltaloom.bags import count_of, make_bag, minus, plus, rows_of, scaled, set_bag, support
from order import row_before

BIG = 10 ** 40
A, B, C = ("a",), (1, "b"), (1,)
ROWS = [(), C, B, (1, "b", 0), (2,), A, ("a", "")]
COUNTS = (-2, -1, 0, 1, 2)
# Bags over two rows with all signs, and a few odd ones.
BAGS = [make_bag([(A, first), (B, second)]) for first, second in itertools.product(COUNTS, repeat=2)]
BAGS += [[((), 1)], [(C, BIG), (B, -BIG)], [(row, 1) for row in ROWS]]


def counts_in(pairs):
    """The sum of the counts of each row, without counts of 0."""
    rows = [row for row, _ in pairs]
    sums = {row: sum(count for other, count in pairs if other == row) for row in rows}
    return {row: sums[row] for row in sums if sums[row] != 0}


class BagCase(unittest.TestCase):
    def check_bag(self, bag, counts):
        """The bag has the form of point 3 and these counts."""
        self.assertIsInstance(bag, list)
        for pair in bag:
            self.assertIsInstance(pair, tuple)
            self.assertEqual(len(pair), 2)
            self.assertIsInstance(pair[0], tuple)
            self.assertNotEqual(pair[1], 0)
        for k in range(len(bag) - 1):
            self.assertTrue(row_before(bag[k][0], bag[k + 1][0]), bag)
        self.assertEqual({row: count for row, count in bag}, counts)


class MakeBag(BagCase):
    def test_no_pairs(self):
        self.assertEqual(make_bag([]), [])

    def test_the_example_of_the_interface(self):
        bag = make_bag([(("b",), 2), ((3,), 1), (("b",), -1)])
        self.assertEqual(bag, [((3,), 1), (("b",), 1)])
        self.assertEqual(minus(bag, [((3,), 1), (("b",), 4)]), [(("b",), -3)])

    def test_pairs_that_occur_more_than_once(self):
        self.assertEqual(make_bag([(A, 1), (A, 1), (A, 1)]), [(A, 3)])
        self.assertEqual(make_bag([(A, 1), (B, 5), (A, 2), (B, 5)]), [(B, 10), (A, 3)])

    def test_counts_of_zero_are_left_out(self):
        self.assertEqual(make_bag([(A, 0)]), [])
        self.assertEqual(make_bag([(A, 0), (B, 1), (C, 0), (B, 0)]), [(B, 1)])

    def test_counts_that_add_up_to_zero_are_left_out(self):
        self.assertEqual(make_bag([(A, 2), (B, 1), (A, -2)]), [(B, 1)])
        self.assertEqual(make_bag([(A, 2), (A, -1), (A, -1)]), [])
        self.assertEqual(make_bag([(A, 2), (A, -2), (A, 3)]), [(A, 3)])

    def test_counts_have_any_size(self):
        self.assertEqual(make_bag([(A, BIG), (A, 1)]), [(A, BIG + 1)])
        self.assertEqual(make_bag([(A, -BIG), (A, BIG), (B, -BIG)]), [(B, -BIG)])
        self.assertEqual(make_bag([(A, 2147483647), (A, 1)]), [(A, 2147483648)])

    def test_rows_stand_in_ascending_order(self):
        for rows in itertools.permutations(ROWS[:6]):
            self.assertEqual([row for row, _ in make_bag([(row, 1) for row in rows])], ROWS[:6])

    def test_an_integer_and_its_text_are_different_rows(self):
        self.assertEqual(make_bag([(("1",), 1), ((1,), 1)]), [((1,), 1), (("1",), 1)])

    def test_the_empty_row_is_a_row(self):
        self.assertEqual(make_bag([((), 1), ((), 1), ((0,), 1)]), [((), 2), ((0,), 1)])

    def test_all_short_lists_of_pairs(self):
        pairs = [(row, count) for row in (A, B, C) for count in (-1, 0, 1)]
        for size in range(4):
            for chosen in itertools.product(pairs, repeat=size):
                self.check_bag(make_bag(list(chosen)), counts_in(chosen))


class SumsAndProducts(BagCase):
    def test_sums(self):
        self.assertEqual(plus([(A, 1)], [(A, 2)]), [(A, 3)])
        self.assertEqual(plus([(A, 1)], [(B, 2), (C, -1)]), [(C, -1), (B, 2), (A, 1)])

    def test_sums_that_cancel(self):
        self.assertEqual(plus([(B, 1), (A, 1)], [(A, -1)]), [(B, 1)])
        self.assertEqual(plus([(B, 4), (A, -3)], [(B, -4), (A, 3)]), [])

    def test_sums_with_the_empty_bag(self):
        for bag in BAGS:
            self.assertEqual(plus(bag, []), bag)
            self.assertEqual(plus([], bag), bag)
            self.assertEqual(minus(bag, []), bag)

    def test_differences(self):
        self.assertEqual(minus([(A, 1)], [(A, 3)]), [(A, -2)])
        self.assertEqual(minus([], [(C, 1), (A, -1)]), [(C, -1), (A, 1)])

    def test_differences_that_cancel(self):
        for bag in BAGS:
            self.assertEqual(minus(bag, bag), [])

    def test_all_pairs_of_bags(self):
        for first, second in itertools.product(BAGS, repeat=2):
            negated = [(row, -count) for row, count in second]
            self.check_bag(plus(first, second), counts_in(first + second))
            self.check_bag(minus(first, second), counts_in(first + negated))

    def test_the_factor_zero(self):
        for bag in BAGS:
            self.assertEqual(scaled(bag, 0), [])

    def test_the_factor_minus_one(self):
        self.assertEqual(scaled([(C, 2), (A, -1)], -1), [(C, -2), (A, 1)])
        for bag in BAGS:
            self.assertEqual(plus(bag, scaled(bag, -1)), [])

    def test_other_factors(self):
        self.assertEqual(scaled([(C, 2), (A, -1)], 1), [(C, 2), (A, -1)])
        self.assertEqual(scaled([(C, 2), (A, -1)], -3), [(C, -6), (A, 3)])
        self.assertEqual(scaled([(A, 2147483647)], BIG), [(A, 2147483647 * BIG)])
        for factor in (0, 1, -1, 7):
            self.assertEqual(scaled([], factor), [])

    def test_all_products(self):
        for bag, factor in itertools.product(BAGS, (-BIG, -2, -1, 0, 1, 2, BIG)):
            self.check_bag(scaled(bag, factor), counts_in([(row, count * factor) for row, count in bag]))


class CountsAndRows(BagCase):
    def test_counts(self):
        bag = [(C, 3), (B, -2), (A, BIG)]
        self.assertEqual([count_of(bag, row) for row in (C, B, A)], [3, -2, BIG])

    def test_rows_that_the_bag_lacks_count_zero(self):
        bag = [(C, 3), (A, -2)]
        for row in ((), (0,), (2,), B, ("1",), ("",), ("a", 0), ("b",)):
            self.assertEqual(count_of(bag, row), 0)

    def test_nothing_counts_in_the_empty_bag(self):
        for row in ROWS:
            self.assertEqual(count_of([], row), 0)

    def test_the_empty_row_is_counted(self):
        self.assertEqual(count_of([((), -4), (A, 1)], ()), -4)

    def test_a_bag_has_the_rows_with_positive_counts(self):
        self.assertEqual(rows_of([((), 1), (C, 3), (B, -2), (A, BIG)]), [(), C, A])
        self.assertEqual(rows_of([(C, -3), (A, -1)]), [])
        self.assertEqual(rows_of([]), [])

    def test_the_support(self):
        self.assertEqual(support([((), 1), (C, 3), (B, -2), (A, BIG)]), [((), 1), (C, 1), (A, 1)])
        self.assertEqual(support([(C, -3), (A, -1)]), [])
        self.assertEqual(support([]), [])

    def test_rows_support_and_counts_agree(self):
        for bag in BAGS:
            rows = [row for row in ROWS if count_of(bag, row) > 0]
            self.assertEqual(rows_of(bag), rows)
            self.check_bag(support(bag), {row: 1 for row in rows})


class SetBag(BagCase):
    def test_each_row_counts_once(self):
        self.assertEqual(set_bag([A, C, B]), [(C, 1), (B, 1), (A, 1)])

    def test_doubled_rows_count_once(self):
        self.assertEqual(set_bag([A, C, A, A, C]), [(C, 1), (A, 1)])
        self.assertEqual(set_bag([(), ()]), [((), 1)])

    def test_no_rows(self):
        self.assertEqual(set_bag([]), [])

    def test_all_short_lists_of_rows(self):
        for size in range(4):
            for rows in itertools.product((A, B, C), repeat=size):
                self.check_bag(set_bag(list(rows)), {row: 1 for row in rows})


# Each function with arguments that it might be tempted to change or to return.
CALLS = [
    (make_bag, [[(C, 1), (A, 1)]]), (make_bag, [[(A, 1), (C, 2), (A, -1), (B, 0)]]), (make_bag, [[]]),
    (plus, [[(A, 1)], []]), (plus, [[], [(A, 1)]]), (plus, [[], []]), (plus, [[(B, 2), (A, 1)], [(C, 1), (A, -1)]]),
    (minus, [[(A, 1)], []]), (minus, [[], [(A, 1)]]), (minus, [[], []]), (minus, [[(B, 2), (A, 1)], [(C, 1), (A, 1)]]),
    (scaled, [[(C, 2), (A, -1)], 1]), (scaled, [[(C, 2), (A, -1)], -1]), (scaled, [[(A, 1)], 0]), (scaled, [[], 1]),
    (rows_of, [[(C, 1), (B, -1), (A, 2)]]), (rows_of, [[]]),
    (support, [[(C, 1), (A, 1)]]), (support, [[(C, 3), (B, -1)]]), (support, [[]]),
    (set_bag, [[C, A]]), (set_bag, [[A, C, A]]), (set_bag, [[]]),
]


def copied(arguments):
    return [list(argument) if isinstance(argument, list) else argument for argument in arguments]


class Sharing(unittest.TestCase):
    def test_arguments_are_as_they_were(self):
        for function, arguments in CALLS + [(count_of, [[(C, 1), (A, 2)], A]), (count_of, [[], A])]:
            given = copied(arguments)
            function(*given)
            self.assertEqual(given, arguments, function)

    def test_a_changed_result_does_not_change_an_argument(self):
        for function, arguments in CALLS:
            given = copied(arguments)
            result = function(*given)
            result.append("more")
            result.reverse()
            self.assertEqual(given, arguments, function)

    def test_a_changed_argument_does_not_change_a_result(self):
        for function, arguments in CALLS:
            given = copied(arguments)
            result = function(*given)
            before = list(result)
            for argument in given:
                if isinstance(argument, list):
                    argument.append("more")
                    argument.reverse()
            self.assertEqual(result, before, function)

    def test_a_changed_result_does_not_change_a_later_one(self):
        for function, arguments in CALLS:
            result = function(*copied(arguments))
            before = list(result)
            result.clear()
            self.assertEqual(function(*copied(arguments)), before, function)

    def test_one_bag_as_both_arguments(self):
        bag = [(C, 1), (A, -2)]
        self.assertEqual(plus(bag, bag), [(C, 2), (A, -4)])
        self.assertEqual(minus(bag, bag), [])
        self.assertEqual(bag, [(C, 1), (A, -2)])


if __name__ == "__main__":
    unittest.main()
