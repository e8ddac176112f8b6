import random
import unittest

import chance
from deltaloom.bags import make_bag, plus
from deltaloom.programs import evaluate_program, sources
from deltaloom.rules import least_set
from deltaloom.terms import value
from sharing import check_call, held_in

X, Y, Z = ("var", 0), ("var", 1), ("var", 2)
FIRST, SECOND = ("at", 0), ("at", 1)
PATH = [
    ([X, Y], [("yes", "edge", [X, Y])]), ([X, Z], [("yes", "path", [X, Y]), ("yes", "edge", [Y, Z])]),
]
# Views by terms and by rules that refer to each other in turn.
GRAPH = ("program", ["edge", "closed"], [
    ("free", "rules", [([X, Y], [("yes", "edge", [X, Y]), ("no", "closed", [X])])]),
    ("path", "rules", [
        ([X, Y], [("yes", "free", [X, Y])]), ([X, Z], [("yes", "path", [X, Y]), ("yes", "free", [Y, Z])]),
    ]),
    ("many", "term", ("fold", [FIRST], "count", FIRST, ("old", "path"))),
    ("hub", "rules", [([X], [("yes", "many", [X, ("const", 2)])])]),
    ("both", "term", ("plus", ("old", "hub"), ("old", "closed"))),
])


class Sources(unittest.TestCase):
    def test_a_view_by_a_term(self):
        self.assertEqual(sources(("v", "term", ("old", "a"))), ["a"])
        self.assertEqual(sources(("v", "term", ("bag", [((1,), 1)]))), [])
        self.assertEqual(sources(("v", "term", ("join", [], [], [], ("old", "b"), ("neg", ("old", "a"))))), ["b", "a"])

    def test_names_that_occur_more_than_once_in_a_term(self):
        term = ("plus", ("plus", ("old", "c"), ("old", "a")), ("plus", ("old", "a"), ("plus", ("old", "b"), ("old", "c"))))
        self.assertEqual(sources(("v", "term", term)), ["c", "a", "b"])

    def test_a_view_by_rules(self):
        self.assertEqual(sources(("v", "rules", [])), [])
        self.assertEqual(sources(("v", "rules", [([("const", 1)], [])])), [])
        self.assertEqual(sources(("v", "rules", [([X], [("yes", "b", [X]), ("no", "a", [X])])])), ["b", "a"])

    def test_names_that_occur_more_than_once_in_rules(self):
        rules = [
            ([X], [("yes", "c", [X]), ("no", "a", [X]), ("yes", "c", [X, X])]),
            ([X], [("no", "a", [X, X]), ("yes", "b", [X]), ("yes", "c", [X])]),
        ]
        self.assertEqual(sources(("v", "rules", rules)), ["c", "a", "b"])

    def test_its_own_name_is_not_among_them(self):
        self.assertEqual(sources(("path", "rules", PATH)), ["edge"])
        self.assertEqual(sources(("v", "rules", [([X], [("yes", "v", [X]), ("yes", "a", [X])])])), ["a"])
        self.assertEqual(sources(("v", "rules", [([X], [("yes", "v", [X])])])), [])

    def test_constants_are_no_names(self):
        self.assertEqual(sources(("v", "rules", [([("const", "b")], [("yes", "a", [("const", "c")])])])), ["a"])
        self.assertEqual(sources(("v", "term", ("keep", ("const", "b"), ("old", "a")))), ["a"])


class Evaluation(unittest.TestCase):
    def test_views_that_refer_to_views_before_them(self):
        inputs = {"edge": [((1, 2), 1), ((2, 3), 1), ((4, 1), 1)], "closed": [((4,), 1)]}
        self.assertEqual(evaluate_program(GRAPH, inputs), {
            "free": [((1, 2), 1), ((2, 3), 1)],
            "path": [((1, 2), 1), ((1, 3), 1), ((2, 3), 1)],
            "many": [((1, 2), 1), ((2, 1), 1)],
            "hub": [((1,), 1)],
            "both": [((1,), 1), ((4,), 1)],
        })

    def test_views_by_terms_that_refer_to_terms(self):
        program = ("program", ["a"], [
            ("one", "term", ("plus", ("old", "a"), ("old", "a"))),
            ("two", "term", ("plus", ("old", "one"), ("old", "a"))),
            ("three", "term", ("neg", ("old", "two"))),
        ])
        found = evaluate_program(program, {"a": [((1,), 1), ((2,), -2)]})
        self.assertEqual(found, {
            "one": [((1,), 2), ((2,), -4)], "two": [((1,), 3), ((2,), -6)], "three": [((1,), -3), ((2,), 6)],
        })

    def test_the_views_stand_in_the_order_of_the_program(self):
        self.assertEqual(list(evaluate_program(GRAPH, {})), ["free", "path", "many", "hub", "both"])

    def test_inputs_are_not_views(self):
        self.assertEqual(evaluate_program(("program", ["a", "b"], []), {"a": [((1,), 1)]}), {})
        self.assertEqual(evaluate_program(("program", [], []), {}), {})

    def test_rules_refer_to_the_rows_that_a_bag_has(self):
        program = ("program", ["edge"], [("path", "rules", PATH)])
        inputs = {"edge": [((1, 2), 5), ((2, 3), 1), ((3, 4), -1), ((5, 6), -2)]}
        self.assertEqual(evaluate_program(program, inputs), {"path": [((1, 2), 1), ((1, 3), 1), ((2, 3), 1)]})

    def test_a_no_atom_holds_for_a_row_with_a_negative_count(self):
        program = ("program", ["a", "b"], [("v", "rules", [([X], [("yes", "a", [X]), ("no", "b", [X])])])])
        inputs = {"a": [((1,), 1), ((2,), 1), ((3,), -1)], "b": [((1,), -3), ((2,), 3), ((3,), -1)]}
        self.assertEqual(evaluate_program(program, inputs), {"v": [((1,), 1)]})

    def test_terms_refer_to_counts_of_both_signs(self):
        program = ("program", ["a"], [
            ("all", "term", ("fold", [], "count", FIRST, ("old", "a"))), ("had", "term", ("once", ("old", "a"))),
        ])
        found = evaluate_program(program, {"a": [((1,), 3), ((2,), -5)]})
        self.assertEqual(found, {"all": [((-2,), 1)], "had": [((1,), 1)]})

    def test_a_view_with_negative_counts_has_no_rows_for_rules(self):
        program = ("program", ["a"], [
            ("less", "term", ("plus", ("old", "a"), ("neg", ("bag", [((1,), 2), ((2,), 1)])))),
            ("left", "rules", [([X], [("yes", "less", [X])])]),
        ])
        found = evaluate_program(program, {"a": [((1,), 1), ((2,), 2)]})
        self.assertEqual(found, {"less": [((1,), -1), ((2,), 1)], "left": [((2,), 1)]})

    def test_inputs_that_are_missing_are_empty(self):
        self.assertEqual(evaluate_program(GRAPH, {}), {"free": [], "path": [], "many": [], "hub": [], "both": []})
        found = evaluate_program(GRAPH, {"edge": [((1, 2), 1)]})
        self.assertEqual((found["path"], found["many"], found["both"]), ([((1, 2), 1)], [((1, 1), 1)], []))
        found = evaluate_program(GRAPH, {"closed": [((1,), 1)]})
        self.assertEqual((found["path"], found["both"]), ([], [((1,), 1)]))

    def test_views_that_need_no_inputs(self):
        program = ("program", [], [
            ("some", "term", ("bag", [((1,), 2)])), ("none", "rules", []), ("fact", "rules", [([("const", 1)], [])]),
        ])
        self.assertEqual(evaluate_program(program, {}), {"some": [((1,), 2)], "none": [], "fact": [((1,), 1)]})

    def test_views_by_terms_as_their_values(self):
        source = random.Random(9)
        for _ in range(200):
            terms = [chance.term(source, 2, ("old",)) for _ in range(3)]
            inputs = chance.bags(source)
            terms.append(("plus", ("old", "va"), ("join", [], [], [FIRST], ("old", "vb"), ("old", "vc"))))
            names = ["va", "vb", "vc", "vd"]
            views = [(name, "term", term) for name, term in zip(names, terms)]
            found = evaluate_program(("program", ["a", "b", "c"], views), inputs)
            bags = dict(inputs)
            for name, term in zip(names, terms):
                bags[name] = value(term, bags, {})
                self.assertEqual(found[name], bags[name])

    def test_views_by_rules_as_their_sets(self):
        source = random.Random(10)
        for _ in range(100):
            rules = [chance.rule(source, "v", {"a": 1, "b": 2, "v": 2}, (1, 2, "a")) for _ in range(3)]
            inputs = {name: make_bag([(row, source.choice((-1, 1, 2))) for row in chance.row_set(source, (1, 2, "a"), size, 5)])
                      for name, size in (("a", 1), ("b", 2))}
            sets = {name: {row: True for row, count in inputs[name] if count > 0} for name in inputs}
            rows = least_set(rules, "v", sets)
            found = evaluate_program(("program", ["a", "b"], [("v", "rules", rules)]), inputs)
            self.assertEqual(found, {"v": [(row, 1) for row in rows]})


class Sharing(unittest.TestCase):
    INPUTS = {"edge": [((1, 2), 1), ((2, 3), -1)], "closed": [((4,), 1)]}

    def test_nothing_is_changed_or_shared(self):
        copies = ("program", ["edge"], [("v", "term", ("old", "edge")), ("w", "term", ("bag", [((1,), 1)]))])
        for program, inputs in ((GRAPH, self.INPUTS), (GRAPH, {}), (copies, {"edge": self.INPUTS["edge"]}), (copies, {})):
            check_call(self, evaluate_program, [program, inputs])
        for view in GRAPH[2] + copies[2]:
            check_call(self, sources, [view])

    def test_the_bags_of_two_views_are_not_one_list(self):
        program = ("program", ["a"], [
            ("v", "term", ("old", "a")), ("w", "term", ("old", "v")), ("x", "term", ("plus", ("old", "w"), ("bag", []))),
        ])
        found = evaluate_program(program, {"a": [((1,), 1)]})
        marks = {id(held) for held in held_in(found)}
        self.assertEqual(len(marks), 4)
        found["v"].clear()
        self.assertEqual((found["w"], found["x"]), ([((1,), 1)], [((1,), 1)]))

    def test_a_bag_that_is_given_twice(self):
        bag = [((1,), 1)]
        program = ("program", ["a", "b"], [("v", "term", ("plus", ("old", "a"), ("old", "b")))])
        self.assertEqual(evaluate_program(program, {"a": bag, "b": bag}), {"v": plus(bag, bag)})
        self.assertEqual(bag, [((1,), 1)])


if __name__ == "__main__":
    unittest.main()
