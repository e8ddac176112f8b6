import itertools
import random
import unittest

import chance
from deltaloom.bags import make_bag, plus
from deltaloom.terms import copied, names_in, new_form, placed_parts, value
from order import row_before
from plain_terms import counts_of
from sharing import check_call, shared

LOWEST, HIGHEST = -2147483648, 2147483647
A, B, C = ("a",), (1, "b"), (1,)
OLD = ("old", "a")
FIRST, SECOND = ("at", 0), ("at", 1)
# A term of each kind over the names a and b, with lists wherever a term has lists.
KINDS = [
    OLD, ("change", "a"), ("new", "a"), ("bag", [(C, 2), (A, -1)]), ("bag", []),
    ("map", [FIRST, ("const", 1)], OLD), ("keep", FIRST, OLD), ("plus", OLD, ("new", "b")), ("neg", ("change", "b")),
    ("join", [FIRST], [FIRST], [FIRST, SECOND], OLD, ("bag", [(C, 1)])), ("once", OLD),
    ("fold", [FIRST], "sum", SECOND, OLD), ("fold", [], "most", FIRST, ("plus", OLD, ("bag", [(C, 1)]))),
]
OLDS = {"a": [(C, 2), (B, 1), (A, -1)], "b": [(C, -1), (A, 3)]}
CHANGES = {"a": [(C, -2), (A, 3)], "b": [((), 1), (C, 1)]}


def constant(*pairs):
    return ("bag", make_bag(list(pairs)))


class TermCase(unittest.TestCase):
    def check(self, term, pairs, olds=None, changes=None):
        """The term denotes the bag of the pairs."""
        self.assertEqual(value(term, olds or {}, changes or {}), pairs)

    def check_bag(self, bag, counts):
        """The bag has the form of point 3 and these counts."""
        self.assertIsInstance(bag, list)
        for k in range(len(bag) - 1):
            self.assertTrue(row_before(bag[k][0], bag[k + 1][0]), bag)
        self.assertEqual({row: count for row, count in bag}, counts)


class Names(TermCase):
    def test_the_example_of_the_interface(self):
        term = ("fold", [("at", 0)], "sum", ("at", 1), ("new", "sales"))
        olds, changes = {"sales": [(("x", 5), 2)]}, {"sales": [(("x", 5), -1), (("y", 1), 1)]}
        self.check(term, [(("x", 5), 1), (("y", 1), 1)], olds, changes)

    def test_the_bag_before_the_change_and_their_sum(self):
        self.check(("old", "a"), OLDS["a"], OLDS, CHANGES)
        self.check(("change", "a"), CHANGES["a"], OLDS, CHANGES)
        self.check(("new", "a"), [(B, 1), (A, 2)], OLDS, CHANGES)

    def test_names_that_are_missing_in_olds(self):
        self.check(("old", "a"), [], {}, CHANGES)
        self.check(("new", "a"), CHANGES["a"], {}, CHANGES)
        self.check(("new", "a"), CHANGES["a"], {"b": OLDS["b"]}, CHANGES)

    def test_names_that_are_missing_in_changes(self):
        self.check(("change", "a"), [], OLDS, {})
        self.check(("new", "a"), OLDS["a"], OLDS, {})
        self.check(("new", "a"), OLDS["a"], OLDS, {"b": CHANGES["b"]})

    def test_names_that_are_missing_in_both(self):
        for kind in ("old", "change", "new"):
            self.check((kind, "c"), [], OLDS, CHANGES)
            self.check((kind, "c"), [])
        self.check(("fold", [], "count", FIRST, ("new", "c")), [], OLDS, CHANGES)

    def test_a_bag_and_a_change_that_cancel(self):
        self.check(("new", "a"), [], {"a": [(A, 2)]}, {"a": [(A, -2)]})

    def test_constant_bags(self):
        self.check(("bag", []), [])
        self.check(("bag", [((), 1), (C, -3), (A, 2)]), [((), 1), (C, -3), (A, 2)], OLDS, CHANGES)


class Rows(TermCase):
    def test_map(self):
        term = ("map", [SECOND, FIRST, ("const", "x")], constant(((1, "b"), 2), (("a",), -1)))
        self.check(term, [((0, "a", "x"), -1), (("b", 1, "x"), 2)])

    def test_equal_results_are_added(self):
        self.check(("map", [FIRST], constant(((1, 1), 2), ((1, 2), 3), ((2, 1), -1))), [((1,), 5), ((2,), -1)])
        self.check(("map", [], constant(((1,), 2), ((2,), 3))), [((), 5)])

    def test_equal_results_whose_counts_add_up_to_0(self):
        self.check(("map", [FIRST], constant(((1, 1), 2), ((1, 2), -2), ((2, 1), 1))), [((2,), 1)])
        self.check(("map", [], constant(((1,), 2), ((2,), -1), ((3,), -1))), [])

    def test_keep(self):
        self.check(("keep", FIRST, constant(((0, 1), 1), ((), 2), ((1,), -3), ((-1,), 4))), [((-1,), 4), ((1,), -3)])

    def test_keep_with_a_text(self):
        self.check(("keep", FIRST, constant((("",), 1), (("0",), -2), ((0,), 3))), [(("",), 1), (("0",), -2)])

    def test_plus_and_neg(self):
        first, second = constant((C, 1), (A, 2)), constant((B, 1), (A, -2))
        self.check(("plus", first, second), [(C, 1), (B, 1)])
        self.check(("plus", first, ("neg", second)), [(C, 1), (B, -1), (A, 4)])
        self.check(("plus", first, ("neg", first)), [])
        self.check(("neg", constant()), [])

    def test_once(self):
        self.check(("once", constant((C, 5), (A, 1))), [(C, 1), (A, 1)])

    def test_once_of_negative_counts(self):
        self.check(("once", constant((C, -5), (A, 1))), [(A, 1)])
        self.check(("once", constant((C, -1))), [])
        self.check(("neg", ("once", ("neg", constant((C, -5), (A, 1))))), [(C, -1)])


class Join(TermCase):
    def join(self, first, second, left=(FIRST,), right=(FIRST,), exprs=(FIRST, SECOND, ("at", 2), ("at", 3))):
        return ("join", list(left), list(right), list(exprs), constant(*first), constant(*second))

    def test_rows_with_equal_keys_are_joined(self):
        term = self.join([((1, "a"), 1), ((2, "b"), 1)], [((1, "c"), 1), ((3, "d"), 1)])
        self.check(term, [((1, "a", 1, "c"), 1)])

    def test_counts_are_multiplied(self):
        term = self.join([((1, "a"), 2), ((1, "b"), -3)], [((1, "c"), 5), ((1, "d"), -7)])
        rows = [((1, "a", 1, "c"), 10), ((1, "a", 1, "d"), -14), ((1, "b", 1, "c"), -15), ((1, "b", 1, "d"), 21)]
        self.check(term, rows)

    def test_equal_results_are_added(self):
        self.check(self.join([((1, "a"), 2), ((1, "b"), 3)], [((1, "c"), 5)], exprs=[FIRST]), [((1,), 25)])
        self.check(self.join([((1, "a"), 2), ((1, "b"), -2)], [((1, "c"), 5)], exprs=[FIRST]), [])

    def test_the_keys_may_differ(self):
        term = self.join([((1, "a"), 1), ((2, "b"), 1)], [((9, 2), 1), ((9, 1), -1)], [FIRST], [SECOND])
        self.check(term, [((1, "a", 9, 1), -1), ((2, "b", 9, 2), 1)])
        self.check(self.join([((1,), 1)], [((1,), 1)], [FIRST], [FIRST, ("const", 0)]), [])

    def test_an_item_that_is_missing_is_0_in_a_key(self):
        self.check(self.join([((), 1)], [((0, 5), 2), ((1, 5), 1)], exprs=[FIRST, SECOND]), [((0, 5), 2)])

    def test_an_integer_and_its_text_are_not_equal(self):
        self.check(self.join([((1,), 1)], [(("1",), 1)]), [])

    def test_without_keys_each_row_is_joined_with_each(self):
        term = self.join([((1,), 1), ((2,), 1)], [((3,), 1), ((4,), 1)], [], [], [FIRST, SECOND])
        self.check(term, [((1, 3), 1), ((1, 4), 1), ((2, 3), 1), ((2, 4), 1)])

    def test_the_first_row_comes_first(self):
        self.check(self.join([((1,), 1)], [((2, 3), 1)], [], [], [("at", 2), ("at", 1), ("at", 0)]), [((3, 2, 1), 1)])

    def test_rows_that_have_more_than_8_items_together(self):
        first, second = tuple(range(8)), tuple(range(8, 16))
        exprs = [("at", k) for k in (15, 0, 8, 9, 7, 16)]
        self.check(self.join([(first, 2)], [(second, 3)], [], [], exprs), [((15, 0, 8, 9, 7, 0), 6)])

    def test_empty_bags(self):
        self.check(self.join([], [((1,), 1)]), [])
        self.check(self.join([((1,), 1)], []), [])


class Fold(TermCase):
    def fold(self, kind, *pairs, keys=(FIRST,), e=SECOND):
        return ("fold", list(keys), kind, e, constant(*pairs))

    def test_count(self):
        self.check(self.fold("count", (("x", 5), 2), (("x", 6), 3), (("y", 5), 1)), [(("x", 5), 1), (("y", 1), 1)])

    def test_count_of_negative_counts_and_counts_that_add_up_to_0(self):
        self.check(self.fold("count", (("x", 5), -2), (("x", 6), -1)), [(("x", -3), 1)])
        self.check(self.fold("count", (("x", 5), -2), (("x", 6), 2)), [(("x", 0), 1)])

    def test_count_beyond_the_range(self):
        self.check(self.fold("count", (("x", 5), HIGHEST), (("x", 6), 1)), [(("x", LOWEST), 1)])
        self.check(self.fold("count", (("x", 5), 4294967296)), [(("x", 0), 1)])
        self.check(self.fold("count", (("x", 5), LOWEST), (("x", 6), -1)), [(("x", HIGHEST), 1)])

    def test_sum(self):
        self.check(self.fold("sum", (("x", 5), 2), (("x", 7), 3), (("y", -4), 2)), [(("x", 31), 1), (("y", -8), 1)])

    def test_sum_of_negative_counts_and_sums_of_0(self):
        self.check(self.fold("sum", (("x", 5), -2)), [(("x", -10), 1)])
        self.check(self.fold("sum", (("x", 5), -2), (("x", 10), 1)), [(("x", 0), 1)])
        self.check(self.fold("sum", (("x", 5), -1), (("x", 6), 1)), [(("x", 1), 1)])

    def test_sum_of_texts(self):
        self.check(self.fold("sum", (("x", "5"), 2), (("x", "a"), 1)), [(("x", 0), 1)])
        self.check(self.fold("sum", (("x", "5"), 2), (("x", 3), 1)), [(("x", 3), 1)])

    def test_sum_beyond_the_range(self):
        self.check(self.fold("sum", (("x", HIGHEST), 2)), [(("x", -2), 1)])
        self.check(self.fold("sum", (("x", HIGHEST), 1), (("x", 1), 1)), [(("x", LOWEST), 1)])
        self.check(self.fold("sum", (("x", LOWEST), 1), (("x", -1), 1)), [(("x", HIGHEST), 1)])
        self.check(self.fold("sum", (("x", HIGHEST), 1), (("x", 1), 1), (("x", -1), 1)), [(("x", HIGHEST), 1)])

    def test_least_and_most(self):
        pairs = [(("x", 5), 2), (("x", -5), 1), (("x", "b"), 3), (("y", "b"), 1), (("y", ""), 1), (("y", "ab"), 1)]
        self.check(self.fold("least", *pairs), [(("x", -5), 1), (("y", ""), 1)])
        self.check(self.fold("most", *pairs), [(("x", "b"), 1), (("y", "b"), 1)])
        self.check(self.fold("most", (("x", 9), 1), (("x", 10), 1)), [(("x", 10), 1)])
        self.check(self.fold("least", (("x", "9"), 1), (("x", "10"), 1)), [(("x", "10"), 1)])

    def test_least_and_most_look_only_at_rows_that_the_term_has(self):
        pairs = [(("x", 1), -1), (("x", 2), 1), (("x", 3), 2), (("x", 4), -3)]
        self.check(self.fold("least", *pairs), [(("x", 2), 1)])
        self.check(self.fold("most", *pairs), [(("x", 3), 1)])

    def test_least_and_most_of_groups_without_such_a_row(self):
        for kind in ("least", "most"):
            self.check(self.fold(kind, (("x", 1), -1), (("x", 2), -1)), [])
            self.check(self.fold(kind, (("x", 1), -1), (("y", 2), 1)), [(("y", 2), 1)])

    def test_least_and_most_of_0_and_of_the_empty_text(self):
        for kind, found in itertools.product(("least", "most"), (0, "")):
            self.check(self.fold(kind, (("x", found), 1)), [(("x", found), 1)])

    def test_counts_that_add_up_to_0_still_make_a_group(self):
        pairs = [(("x", 1), -1), (("x", 2), 1)]
        self.check(self.fold("count", *pairs), [(("x", 0), 1)])
        self.check(self.fold("sum", *pairs), [(("x", 1), 1)])
        self.check(self.fold("least", *pairs), [(("x", 2), 1)])
        self.check(self.fold("most", *pairs), [(("x", 2), 1)])

    def test_the_key_comes_before_the_value(self):
        term = self.fold("count", ((1, "a", 2), 1), ((1, "b", 2), 1), keys=[("at", 2), FIRST])
        self.check(term, [((2, 1, 2), 1)])

    def test_without_keys_there_is_one_group(self):
        self.check(self.fold("count", ((1,), 1), ((2,), 2), keys=[]), [((3,), 1)])
        self.check(self.fold("most", ((1, 5), 1), ((2, 4), 2), keys=[]), [((5,), 1)])

    def test_the_empty_bag_has_no_groups(self):
        for kind in ("count", "sum", "least", "most"):
            self.check(self.fold(kind), [])
            self.check(self.fold(kind, keys=[]), [])

    def test_rows_of_more_than_8_items(self):
        term = self.fold("most", (tuple(range(9)), 1), keys=[("at", k) for k in range(9)], e=("at", 8))
        self.check(term, [(tuple(range(9)) + (8,), 1)])


class AllTerms(TermCase):
    def test_terms_of_all_kinds_denote_what_the_document_says(self):
        source = random.Random(5)
        for _ in range(1500):
            term, olds, changes = chance.term(source, 3), chance.bags(source), chance.bags(source)
            self.check_bag(value(term, olds, changes), counts_of(term, olds, changes))

    def test_deep_terms(self):
        term = ("old", "a")
        for k in range(3000):
            term = ("neg", ("plus", term, ("bag", [(C, 1)])))
        self.check(term, [(A, 1)], {"a": [(A, 1)]})
        self.check(new_form(term), [(A, 2)], {"a": [(A, 1)]}, {"a": [(A, 1)]})
        self.assertEqual(names_in(term), ["a"])


class NamesIn(unittest.TestCase):
    def test_a_single_name(self):
        for kind in ("old", "change", "new"):
            self.assertEqual(names_in((kind, "edge")), ["edge"])

    def test_terms_without_names(self):
        self.assertEqual(names_in(("bag", [])), [])
        self.assertEqual(names_in(("once", ("bag", [(("old", "a"), 1)]))), [])

    def test_the_order_of_the_first_occurrence_without_duplicates(self):
        term = ("plus", ("plus", ("old", "c"), ("old", "a")), ("plus", ("old", "b"), ("plus", ("old", "a"), ("old", "c"))))
        self.assertEqual(names_in(term), ["c", "a", "b"])

    def test_a_name_under_old_change_and_new_is_one_name(self):
        term = ("plus", ("new", "a"), ("plus", ("change", "b"), ("plus", ("old", "a"), ("change", "a"))))
        self.assertEqual(names_in(term), ["a", "b"])
        self.assertEqual(names_in(("plus", ("change", "b"), ("plus", ("old", "b"), ("new", "a")))), ["b", "a"])

    def test_names_in_terms_of_all_kinds(self):
        for term in KINDS[5:]:
            self.assertEqual(names_in(term)[0], "b" if term[0] == "neg" else "a", term)
        join = ("join", [("const", "x")], [("at", 0)], [("at", 0)], ("old", "b"), ("keep", ("const", "y"), ("old", "a")))
        self.assertEqual(names_in(join), ["b", "a"])
        self.assertEqual(names_in(("fold", [("const", "x")], "least", ("const", "y"), ("map", [], join))), ["b", "a"])

    def test_texts_in_expressions_are_no_names(self):
        self.assertEqual(names_in(("keep", ("=", ("const", "old"), ("const", "new")), ("old", "a"))), ["a"])


class NewForm(TermCase):
    def test_terms_of_all_kinds(self):
        old, new, constant_bag = ("old", "a"), ("new", "a"), ("bag", [(C, 1)])
        pairs = [
            (old, new), (constant_bag, constant_bag), (("bag", []), ("bag", [])),
            (("map", [FIRST], old), ("map", [FIRST], new)), (("keep", FIRST, old), ("keep", FIRST, new)),
            (("plus", old, ("old", "b")), ("plus", new, ("new", "b"))), (("neg", old), ("neg", new)),
            (("join", [FIRST], [SECOND], [], old, constant_bag), ("join", [FIRST], [SECOND], [], new, constant_bag)),
            (("join", [], [], [], ("old", "b"), old), ("join", [], [], [], ("new", "b"), new)),
            (("once", ("once", old)), ("once", ("once", new))),
            (("fold", [FIRST], "least", SECOND, old), ("fold", [FIRST], "least", SECOND, new)),
        ]
        for term, form in pairs:
            self.assertEqual(new_form(term), form)

    def test_texts_in_expressions_and_rows_stay(self):
        for term in (("keep", ("const", "old"), ("bag", [])), ("bag", [(("old", "a"), 1)])):
            self.assertEqual(new_form(term), term)

    def test_the_new_form_denotes_what_the_term_denotes_after_the_change(self):
        source = random.Random(6)
        for _ in range(400):
            term, olds, changes = chance.term(source, 3, ("old",)), chance.bags(source), chance.bags(source)
            news = {name: plus(olds.get(name, []), changes.get(name, [])) for name in chance.NAMES}
            self.check(new_form(term), value(term, news, {}), olds, changes)


class Parts(unittest.TestCase):
    def test_parts_with_their_positions(self):
        for term in KINDS:
            many = {"map": 1, "keep": 1, "plus": 2, "neg": 1, "join": 2, "once": 1, "fold": 1}.get(term[0], 0)
            wanted = [((7, k), part) for k, part in enumerate(term[len(term) - many:])]
            self.assertEqual(placed_parts(((7,), term)), wanted)

    def test_copies(self):
        source = random.Random(32)
        for term in KINDS + [chance.term(source, 4) for _ in range(100)]:
            found = copied(term)
            self.assertEqual(found, term)
            self.assertFalse(shared(found, term))


class Sharing(unittest.TestCase):
    def test_nothing_is_changed_or_shared(self):
        for term in KINDS:
            check_call(self, names_in, [term])
            check_call(self, new_form, [term])
            check_call(self, value, [term, OLDS, CHANGES])
            check_call(self, value, [term, {}, {}])
            check_call(self, value, [term, OLDS, {}])
            check_call(self, value, [term, {}, CHANGES])

    def test_a_bag_under_two_names(self):
        bag = [(C, 1), (A, -1)]
        found = value(("new", "a"), {"a": bag}, {"a": bag})
        self.assertEqual((found, bag), ([(C, 2), (A, -2)], [(C, 1), (A, -1)]))

    def test_lists_of_random_terms_are_not_shared(self):
        source = random.Random(7)
        for _ in range(200):
            term = chance.term(source, 3, ("old",))
            self.assertFalse(shared(new_form(term), term))


if __name__ == "__main__":
    unittest.main()
