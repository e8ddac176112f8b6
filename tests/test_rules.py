import itertools
import random
import unittest

import chance
from deltaloom.rules import doubtful, least_set, updated_set
from order import row_before
from plain_rules import grown, may_depend_on_a_loss
from sharing import check_call

X, Y, Z = ("var", 0), ("var", 1), ("var", 2)
EDGE = ("yes", "edge", [X, Y])
PATH = [([X, Y], [EDGE]), ([X, Z], [("yes", "path", [X, Y]), ("yes", "edge", [Y, Z])])]
# The same paths by a rule that uses itself twice.
DOUBLE = [([X, Y], [EDGE]), ([X, Z], [("yes", "path", [X, Y]), ("yes", "path", [Y, Z])])]
# What is reached from a start.
REACHED = [([X], [("yes", "start", [X])]), ([Y], [("yes", "reached", [X]), EDGE])]


def const(value):
    return ("const", value)


def as_set(rows):
    return {row: True for row in rows}


def as_sets(**named):
    return {name: as_set(rows) for name, rows in named.items()}


class RuleCase(unittest.TestCase):
    def check_least(self, rules, own, sets, rows):
        self.assertEqual(least_set(rules, own, sets), rows)

    def check_update(self, rules, own, olds, news, before, after):
        """The sets before and after a change, computed from scratch and from each other."""
        self.assertEqual(least_set(rules, own, olds), before)
        self.assertEqual(least_set(rules, own, news), after)
        self.assertEqual(updated_set(rules, own, olds, news, before), after)
        self.assertEqual(updated_set(rules, own, news, olds, after), before)
        self.assertEqual(updated_set(rules, own, news, news, after), after)


class Examples(RuleCase):
    def test_the_examples_of_the_interface(self):
        sets = {"edge": {(1, 2): True, (2, 3): True}}
        self.assertEqual(least_set(PATH, "path", sets), [(1, 2), (1, 3), (2, 3)])
        news = {"edge": {(2, 3): True}}
        self.assertEqual(updated_set(PATH, "path", sets, news, [(1, 2), (1, 3), (2, 3)]), [(2, 3)])


class Bodies(RuleCase):
    def test_no_rules(self):
        self.check_least([], "v", {}, [])

    def test_a_rule_without_a_body(self):
        self.check_least([([const("b"), const(3)], []), ([const(7)], [])], "v", {}, [(7,), ("b", 3)])
        self.check_least([([], [])], "v", {}, [()])

    def test_a_rule_without_a_body_starts_a_recursion(self):
        rules = [([const(1)], []), ([Y], [("yes", "v", [X]), EDGE])]
        self.check_least(rules, "v", as_sets(edge=[(1, 2), (2, 3), (4, 5)]), [(1,), (2,), (3,)])

    def test_a_body_without_a_yes_atom(self):
        rules = [([const(1)], [("no", "edge", [const(1), const(2)])])]
        self.check_least(rules, "v", as_sets(edge=[]), [(1,)])
        self.check_least(rules, "v", as_sets(edge=[(2, 1)]), [(1,)])
        self.check_least(rules, "v", as_sets(edge=[(1, 2)]), [])

    def test_a_body_holds_if_all_its_atoms_hold(self):
        rules = [([X], [("yes", "a", [X]), ("yes", "b", [X]), ("no", "c", [X])])]
        for in_a, in_b, in_c in itertools.product((False, True), repeat=3):
            sets = as_sets(a=[(1,)] * in_a, b=[(1,)] * in_b, c=[(1,)] * in_c)
            self.check_least(rules, "v", sets, [(1,)] if in_a and in_b and not in_c else [])

    def test_a_variable_that_occurs_twice_in_an_atom(self):
        rules = [([X], [("yes", "edge", [X, X])])]
        self.check_least(rules, "v", as_sets(edge=[(1, 2), (2, 2), ("a", "a"), (1, "1")]), [(2,), ("a",)])
        rules = [([X, Y], [("yes", "t", [X, Y, X])])]
        self.check_least(rules, "v", as_sets(t=[(1, 2, 1), (1, 2, 2), (2, 2, 2)]), [(1, 2), (2, 2)])

    def test_a_variable_that_occurs_in_two_atoms(self):
        rules = [([X, Z], [EDGE, ("yes", "edge", [Y, Z])])]
        self.check_least(rules, "v", as_sets(edge=[(1, 2), (2, 3), (2, 1), (4, 4)]), [(1, 1), (1, 3), (2, 2), (4, 4)])

    def test_a_variable_that_occurs_twice_in_a_head(self):
        self.check_least([([X, Y, X], [EDGE])], "v", as_sets(edge=[(1, "a")]), [(1, "a", 1)])

    def test_a_variable_that_does_not_occur_in_the_head(self):
        self.check_least([([], [EDGE])], "v", as_sets(edge=[(1, 2), (3, 4)]), [()])
        self.check_least([([], [EDGE])], "v", as_sets(edge=[]), [])

    def test_constants_in_heads_and_bodies(self):
        rules = [([const("to"), Y], [("yes", "edge", [const(1), Y])])]
        self.check_least(rules, "v", as_sets(edge=[(1, 2), (2, 3), ("1", 4), (1, "a")]), [("to", 2), ("to", "a")])
        rules = [([X], [("yes", "edge", [X, const("a")])])]
        self.check_least(rules, "v", as_sets(edge=[(1, 2), (1, "a"), ("a", 1)]), [(1,)])
        self.check_least([([const(5)], [("yes", "edge", [const(1), const(2)])])], "v", as_sets(edge=[(1, 2)]), [(5,)])
        self.check_least([([const(5)], [("yes", "edge", [const(1), const(2)])])], "v", as_sets(edge=[(2, 1)]), [])

    def test_variables_may_have_any_numbers(self):
        rules = [([("var", 70), ("var", 3)], [("yes", "edge", [("var", 3), ("var", 70)])])]
        self.check_least(rules, "v", as_sets(edge=[(1, 2)]), [(2, 1)])

    def test_no_atoms(self):
        rules = [([X, Y], [EDGE, ("no", "edge", [Y, X])])]
        self.check_least(rules, "v", as_sets(edge=[(1, 2), (2, 1), (2, 3), (4, 4)]), [(2, 3)])

    def test_a_no_atom_may_stand_before_the_atom_that_has_its_variables(self):
        rules = [([X], [("no", "b", [X]), ("yes", "a", [X])])]
        self.check_least(rules, "v", as_sets(a=[(1,), (2,)], b=[(2,)]), [(1,)])

    def test_a_no_atom_with_constants_and_with_a_variable_twice(self):
        rules = [([X], [("yes", "a", [X]), ("no", "b", [X, const(0), X])])]
        self.check_least(rules, "v", as_sets(a=[(1,), (2,)], b=[(2, 0, 2), (1, 0, 2)]), [(1,)])

    def test_rows_of_different_lengths_under_one_name(self):
        rows = [(), (1,), (1, 2), (1, 2, 3), ("a",), ("a", "b")]
        self.check_least([([X], [("yes", "t", [X])])], "v", as_sets(t=rows), [(1,), ("a",)])
        self.check_least([([X, Y], [("yes", "t", [X, Y])])], "v", as_sets(t=rows), [(1, 2), ("a", "b")])
        self.check_least([([const("empty")], [("yes", "t", [])])], "v", as_sets(t=rows), [("empty",)])
        self.check_least([([const("empty")], [("yes", "t", [])])], "v", as_sets(t=rows[1:]), [])
        self.check_least([([X], [("yes", "t", [X]), ("no", "t", [X, const(2)])])], "v", as_sets(t=rows), [("a",)])
        self.check_least([([X], [("yes", "t", [X, const(2), Y])])], "v", as_sets(t=rows), [(1,)])

    def test_the_view_itself_may_have_rows_of_different_lengths(self):
        rules = [([X, Y], [EDGE]), ([X], [("yes", "v", [X, Y])]), ([], [("yes", "v", [X])])]
        self.check_least(rules, "v", as_sets(edge=[(2, 1), (1, 5)]), [(), (1,), (1, 5), (2,), (2, 1)])

    def test_rows_of_more_than_8_items(self):
        arguments = [("var", k) for k in range(10)]
        rules = [(arguments[::-1], [("yes", "t", arguments)])]
        self.check_least(rules, "v", as_sets(t=[tuple(range(10))]), [tuple(range(9, -1, -1))])

    def test_integers_and_texts_differ(self):
        rules = [([X], [("yes", "a", [X]), ("yes", "b", [X])])]
        self.check_least(rules, "v", as_sets(a=[(1,), ("2",)], b=[("1",), (2,)]), [])

    def test_a_set_is_made_of_its_keys(self):
        rules = [([X], [("yes", "a", [X]), ("no", "b", [X])])]
        self.check_least(rules, "v", {"a": {(1,): False, (2,): 0}, "b": {(2,): None}}, [(1,)])


class Recursion(RuleCase):
    def test_rows_come_in_ascending_order(self):
        rows = [("b",), (10,), (9,), ("",), (-1,), ("a",)]
        self.check_least([([X], [("yes", "a", [X])])], "v", as_sets(a=rows), [(-1,), (9,), (10,), ("",), ("a",), ("b",)])

    def test_paths(self):
        for rules in (PATH, DOUBLE):
            self.check_least(rules, "path", as_sets(edge=[]), [])
            self.check_least(rules, "path", as_sets(edge=[(1, 1)]), [(1, 1)])
            both = [(1, 1), (1, 2), (2, 1), (2, 2)]
            self.check_least(rules, "path", as_sets(edge=[(1, 2), (2, 1)]), both)
            chain = [(k, k + 1) for k in range(12)]
            self.check_least(rules, "path", as_sets(edge=chain), [(k, n) for k in range(13) for n in range(k + 1, 13)])

    def test_a_recursion_without_a_beginning_is_empty(self):
        self.check_least([([X], [("yes", "v", [X])])], "v", {}, [])
        self.check_least([([Y], [("yes", "v", [X]), EDGE])], "v", as_sets(edge=[(1, 1), (1, 2)]), [])

    def test_the_smallest_set_has_no_row_that_only_holds_itself_up(self):
        rules = REACHED + [([X], [("yes", "reached", [X])])]
        self.check_least(rules, "reached", as_sets(start=[(1,)], edge=[(2, 3), (3, 2)]), [(1,)])

    def test_rules_that_feed_each_other(self):
        rules = [
            ([const("even"), const(0)], []),
            ([const("odd"), Y], [("yes", "v", [const("even"), X]), EDGE]),
            ([const("even"), Y], [("yes", "v", [const("odd"), X]), EDGE]),
        ]
        found = [("even", 0), ("even", 2), ("odd", 1), ("odd", 3)]
        self.check_least(rules, "v", as_sets(edge=[(0, 1), (1, 2), (2, 3)]), found)

    def test_a_set_under_the_views_own_name_is_not_looked_at(self):
        sets = as_sets(edge=[(1, 2)], path=[(7, 8)])
        self.assertEqual(least_set(PATH, "path", sets), [(1, 2)])
        self.assertEqual(updated_set(PATH, "path", sets, as_sets(edge=[(1, 2), (2, 3)]), [(1, 2)]), [(1, 2), (1, 3), (2, 3)])

    def test_long_chains(self):
        rules = [([const(0)], []), ([Y], [("yes", "v", [X]), EDGE])]
        sets = as_sets(edge=[(k, k + 1) for k in range(3000)])
        self.assertEqual(least_set(rules, "v", sets), [(k,) for k in range(3001)])


class Updates(RuleCase):
    def test_rows_that_are_gained(self):
        olds, news = as_sets(edge=[(1, 2)]), as_sets(edge=[(1, 2), (2, 3)])
        for rules in (PATH, DOUBLE):
            self.check_update(rules, "path", olds, news, [(1, 2)], [(1, 2), (1, 3), (2, 3)])

    def test_rows_that_are_lost_and_gained_at_once(self):
        olds, news = as_sets(edge=[(1, 2), (2, 3)]), as_sets(edge=[(2, 3), (3, 1)])
        for rules in (PATH, DOUBLE):
            self.check_update(rules, "path", olds, news, [(1, 2), (1, 3), (2, 3)], [(2, 1), (2, 3), (3, 1)])

    def test_nothing_changes(self):
        sets = as_sets(edge=[(1, 2), (2, 1)])
        both = [(1, 1), (1, 2), (2, 1), (2, 2)]
        self.check_update(PATH, "path", sets, as_sets(edge=[(2, 1), (1, 2)]), both, both)

    def test_all_is_lost_and_all_is_gained(self):
        olds, news = as_sets(edge=[(1, 2), (2, 1)]), as_sets(edge=[])
        self.check_update(PATH, "path", olds, news, [(1, 1), (1, 2), (2, 1), (2, 2)], [])

    def test_a_cycle_that_loses_what_held_it_up(self):
        edges = [(1, 2), (2, 3), (3, 4), (4, 2)]
        olds, news = as_sets(start=[(1,)], edge=edges), as_sets(start=[(1,)], edge=edges[1:])
        self.check_update(REACHED, "reached", olds, news, [(1,), (2,), (3,), (4,)], [(1,)])
        news = as_sets(start=[], edge=edges)
        self.check_update(REACHED, "reached", olds, news, [(1,), (2,), (3,), (4,)], [])

    def test_a_cycle_that_is_still_held_up_by_another_row(self):
        edges = [(1, 2), (2, 3), (3, 2), (5, 3)]
        olds = as_sets(start=[(1,), (5,)], edge=edges)
        news = as_sets(start=[(1,), (5,)], edge=edges[1:])
        self.check_update(REACHED, "reached", olds, news, [(1,), (2,), (3,), (5,)], [(1,), (2,), (3,), (5,)])

    def test_rows_that_support_each_other(self):
        rules = [([X], [("yes", "a", [X])]), ([Y], [("yes", "v", [X]), EDGE]), ([X], [("yes", "v", [Y]), EDGE])]
        olds, news = as_sets(a=[(1,)], edge=[(1, 2)]), as_sets(a=[], edge=[(1, 2)])
        self.check_update(rules, "v", olds, news, [(1,), (2,)], [])

    def test_rows_that_are_removed_and_found_again_by_another_rule(self):
        rules = [([X], [("yes", "a", [X])]), ([X], [("yes", "b", [X])]), ([const("next")], [("yes", "v", [const(1)])])]
        olds, news = as_sets(a=[(1,)], b=[(1,)]), as_sets(a=[], b=[(1,)])
        self.assertEqual(doubtful(rules, "v", olds, news, [(1,), ("next",)]), as_set([(1,), ("next",)]))
        self.check_update(rules, "v", olds, news, [(1,), ("next",)], [(1,), ("next",)])

    def test_rows_that_are_found_again_in_another_way(self):
        olds, news = as_sets(edge=[(1, 2), (2, 4), (1, 3), (3, 4)]), as_sets(edge=[(1, 2), (1, 3), (3, 4)])
        before = [(1, 2), (1, 3), (1, 4), (2, 4), (3, 4)]
        self.check_update(PATH, "path", olds, news, before, [(1, 2), (1, 3), (1, 4), (3, 4)])

    def test_a_gained_row_of_a_no_atom(self):
        rules = [([X], [("yes", "a", [X]), ("no", "b", [X])]), ([Y], [("yes", "v", [X]), EDGE])]
        olds = as_sets(a=[(1,), (2,)], b=[], edge=[(1, 3), (3, 4)])
        news = as_sets(a=[(1,), (2,)], b=[(1,)], edge=[(1, 3), (3, 4)])
        self.check_update(rules, "v", olds, news, [(1,), (2,), (3,), (4,)], [(2,)])

    def test_no_atoms_with_constants_and_doubled_variables(self):
        rules = [([X], [("yes", "a", [X]), ("no", "b", [X, X, const(0)])])]
        olds, news = as_sets(a=[(1,), (2,)], b=[(1, 2, 0), (2, 2, 1)]), as_sets(a=[(1,), (2,)], b=[(1, 1, 0), (2, 1, 0)])
        self.check_update(rules, "v", olds, news, [(1,), (2,)], [(2,)])

    def test_a_body_without_a_yes_atom(self):
        rules = [([const(1)], [("no", "a", [])]), ([const(2)], [("yes", "v", [const(1)])])]
        self.check_update(rules, "v", as_sets(a=[]), as_sets(a=[()]), [(1,), (2,)], [])

    def test_a_name_under_both_signs(self):
        rules = [([X, Y], [EDGE, ("no", "edge", [Y, X])])]
        self.check_update(rules, "v", as_sets(edge=[(1, 2), (3, 4)]), as_sets(edge=[(1, 2), (2, 1)]), [(1, 2), (3, 4)], [])

    def test_a_rule_without_a_body_stays(self):
        rules = [([const(1)], []), ([Y], [("yes", "v", [X]), EDGE])]
        self.check_update(rules, "v", as_sets(edge=[(1, 2)]), as_sets(edge=[]), [(1,), (2,)], [(1,)])
        self.check_update([([const(1)], [])], "v", {}, {}, [(1,)], [(1,)])
        self.check_update([], "v", {}, {}, [], [])

    def test_rows_of_different_lengths(self):
        rules = [([X], [("yes", "t", [X])]), ([X, Y], [("yes", "t", [X, Y]), ("no", "t", [X])])]
        olds, news = as_sets(t=[(1,), (1, 2), (3, 4)]), as_sets(t=[(3,), (1, 2), (3, 4), ()])
        self.check_update(rules, "v", olds, news, [(1,), (3, 4)], [(1, 2), (3,)])

    def test_a_body_whose_losses_meet_in_one_substitution(self):
        rules = [([X, Z], [EDGE, ("yes", "edge", [Y, Z])])]
        olds, news = as_sets(edge=[(1, 1), (1, 2), (2, 3)]), as_sets(edge=[(2, 3)])
        self.check_update(rules, "v", olds, news, [(1, 1), (1, 2), (1, 3)], [])

    def test_all_changes_of_a_small_graph(self):
        edges = [(1, 2), (2, 1), (2, 3), (3, 1)]
        graphs = [list(itertools.compress(edges, chosen)) for chosen in itertools.product((0, 1), repeat=4)]
        for rules in (PATH, DOUBLE):
            for old, new in itertools.product(graphs, repeat=2):
                olds, news = as_sets(edge=old), as_sets(edge=new)
                before, after = least_set(rules, "path", olds), least_set(rules, "path", news)
                self.assertEqual(updated_set(rules, "path", olds, news, before), after, (old, new))


class AllRules(RuleCase):
    """Random rules, compared with the plain computation of tests/plain_rules.py."""

    SIZES = {"a": 1, "b": 2, "c": 2, "v": 2}
    VALUES = (1, 2, "a")

    def test_random_rules(self):
        source = random.Random(8)
        for _ in range(300):
            rules = [chance.rule(source, "v", self.SIZES, self.VALUES) for _ in range(source.randint(1, 4))]
            olds = {name: chance.row_set(source, self.VALUES, self.SIZES[name], 4) for name in "abc"}
            news = {name: chance.changed_set(source, olds[name], self.VALUES, self.SIZES[name]) for name in "abc"}
            self.compare(rules, olds, news)

    def compare(self, rules, olds, news):
        before, after = least_set(rules, "v", olds), least_set(rules, "v", news)
        for sets, rows in ((olds, before), (news, after)):
            self.assertEqual(set(rows), grown(rules, "v", sets, []), (rules, sets))
            self.assertTrue(all(row_before(rows[k], rows[k + 1]) for k in range(len(rows) - 1)))
        removed = may_depend_on_a_loss(rules, "v", olds, news, before)
        self.assertEqual(set(doubtful(rules, "v", olds, news, before)), removed, (rules, olds, news))
        self.assertEqual(grown(rules, "v", news, set(before) - removed), set(after))
        self.assertEqual(updated_set(rules, "v", olds, news, before), after, (rules, olds, news))


class Sharing(unittest.TestCase):
    def test_nothing_is_changed_or_shared(self):
        olds, news = as_sets(edge=[(1, 2), (2, 3)]), as_sets(edge=[(2, 3), (3, 1)])
        check_call(self, least_set, [PATH, "path", olds])
        check_call(self, least_set, [[], "path", {}])
        check_call(self, updated_set, [PATH, "path", olds, news, [(1, 2), (1, 3), (2, 3)]])
        check_call(self, updated_set, [PATH, "path", olds, olds, [(1, 2), (1, 3), (2, 3)]])
        check_call(self, updated_set, [[], "path", {}, {}, []])

    def test_one_dict_for_both_sets(self):
        sets = as_sets(edge=[(1, 2)])
        self.assertEqual(updated_set(PATH, "path", sets, sets, [(1, 2)]), [(1, 2)])
        self.assertEqual(sets, as_sets(edge=[(1, 2)]))


if __name__ == "__main__":
    unittest.main()
