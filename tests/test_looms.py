import copy
import random
import unittest
from unittest import mock

import chance
from deltaloom import looms
from deltaloom.bags import minus, plus
from deltaloom.errors import NameUnknown
from deltaloom.looms import Loom
from deltaloom.programs import evaluate_program, sources
from sharing import check_call, held_in, shared, spoil

X, Y, Z = ("var", 0), ("var", 1), ("var", 2)
FIRST, SECOND = ("at", 0), ("at", 1)
EDGE = ("yes", "edge", [X, Y])
PATH = [([X, Y], [EDGE]), ([X, Z], [("yes", "path", [X, Y]), ("yes", "edge", [Y, Z])])]
# Views by terms and by rules that refer to each other in turn.
GRAPH = ("program", ["edge", "closed"], [
    ("free", "rules", [([X, Y], [EDGE, ("no", "closed", [X])])]),
    ("path", "rules", [
        ([X, Y], [("yes", "free", [X, Y])]), ([X, Z], [("yes", "path", [X, Y]), ("yes", "free", [Y, Z])]),
    ]),
    ("many", "term", ("fold", [FIRST], "count", FIRST, ("old", "path"))),
    ("hub", "rules", [([X], [("yes", "many", [X, ("const", 2)])])]),
    ("both", "term", ("plus", ("old", "hub"), ("old", "closed"))),
])
# A view by each kind of term.
TERMS = ("program", ["a", "b"], [
    ("vold", "term", ("old", "a")),
    ("vbag", "term", ("bag", [((1,), 1)])),
    ("vmap", "term", ("map", [SECOND], ("old", "a"))),
    ("vkeep", "term", ("keep", ("<", FIRST, ("const", 2)), ("old", "a"))),
    ("vplus", "term", ("plus", ("old", "a"), ("old", "b"))),
    ("vneg", "term", ("neg", ("old", "b"))),
    ("vjoin", "term", ("join", [FIRST], [SECOND], [FIRST, SECOND, ("at", 2)], ("old", "a"), ("old", "b"))),
    ("vonce", "term", ("once", ("old", "a"))),
    ("vcount", "term", ("fold", [FIRST], "count", SECOND, ("old", "a"))),
    ("vsum", "term", ("fold", [FIRST], "sum", SECOND, ("old", "a"))),
    ("vleast", "term", ("fold", [FIRST], "least", SECOND, ("old", "a"))),
    ("vmost", "term", ("fold", [], "most", SECOND, ("plus", ("old", "a"), ("once", ("old", "b"))))),
])


def names_of(program):
    """The names of the inputs and of the views."""
    return list(program[1]), [view[0] for view in program[2]]


class LoomCase(unittest.TestCase):
    def check_all(self, loom, program, inputs):
        """Everything that the loom has is what the plain evaluation gives for the inputs."""
        names, views = names_of(program)
        wanted = evaluate_program(program, inputs)
        for view in views:
            self.assertEqual(loom.read(view), wanted[view], (view, inputs))
        for name in names:
            self.assertEqual(loom.read(name), inputs.get(name, []))


class Beginning(LoomCase):
    def test_a_new_loom_is_the_plain_evaluation_of_empty_inputs(self):
        source = random.Random(33)
        for program in [GRAPH, TERMS] + [chance.program(source) for _ in range(50)]:
            self.check_all(Loom(program), program, {})

    def test_views_that_need_no_inputs(self):
        program = ("program", [], [
            ("some", "term", ("bag", [((1,), 2)])), ("fact", "rules", [([("const", 1)], [])]),
            ("none", "rules", [([("const", 1)], [("no", "fact", [("const", 2)])]), ([X], [("yes", "some", [X])])]),
        ])
        self.check_all(Loom(program), program, {})
        self.assertEqual(Loom(program).read("none"), [((1,), 1)])

    def test_a_program_without_views_and_one_without_anything(self):
        loom = Loom(("program", ["a"], []))
        loom.feed("a", [((1,), 2)])
        self.assertEqual(loom.read("a"), [((1,), 2)])
        with self.assertRaises(NameUnknown):
            Loom(("program", [], [])).read("a")


class Feeding(LoomCase):
    def test_changes_are_added(self):
        loom = Loom(GRAPH)
        loom.feed("edge", [((1, 2), 1), ((2, 3), 1)])
        self.check_all(loom, GRAPH, {"edge": [((1, 2), 1), ((2, 3), 1)]})
        loom.feed("edge", [((1, 2), 2), ((2, 3), -1), ((4, 1), 1)])
        self.check_all(loom, GRAPH, {"edge": [((1, 2), 3), ((4, 1), 1)]})
        loom.feed("closed", [((4,), 1)])
        self.check_all(loom, GRAPH, {"edge": [((1, 2), 3), ((4, 1), 1)], "closed": [((4,), 1)]})

    def test_known_views(self):
        loom = Loom(GRAPH)
        loom.feed("edge", [((1, 2), 1), ((2, 3), 1), ((4, 1), 1)])
        loom.feed("closed", [((4,), 1)])
        self.assertEqual(loom.read("both"), [((1,), 1), ((4,), 1)])
        self.assertEqual(loom.read("path"), [((1, 2), 1), ((1, 3), 1), ((2, 3), 1)])
        loom.feed("closed", [((4,), -1)])
        self.assertEqual(loom.read("path"), [((1, 2), 1), ((1, 3), 1), ((2, 3), 1), ((4, 1), 1), ((4, 2), 1), ((4, 3), 1)])
        loom.feed("edge", [((1, 2), -1)])
        self.assertEqual(loom.read("path"), [((2, 3), 1), ((4, 1), 1)])
        self.assertEqual(loom.read("both"), [])

    def test_counts_below_0(self):
        for program in (GRAPH, TERMS):
            loom, inputs = Loom(program), {}
            name = program[1][0]
            for change in ([((1, 2), -2)], [((1, 2), 1)], [((1, 2), 1)], [((1, 2), 1)], [((1, 2), -1)]):
                loom.feed(name, change)
                inputs[name] = plus(inputs.get(name, []), change)
                self.check_all(loom, program, inputs)

    def test_changes_that_cancel_one_another(self):
        for program in (GRAPH, TERMS):
            loom = Loom(program)
            for name in program[1]:
                loom.feed(name, [((1, 2), 1), ((2,), -1)])
                loom.feed(name, [((1, 2), -1), ((2,), 1)])
            self.check_all(loom, program, {})

    def test_a_change_without_rows(self):
        loom = Loom(TERMS)
        loom.feed("a", [])
        self.check_all(loom, TERMS, {})

    def test_terms_of_all_kinds(self):
        source = random.Random(34)
        for _ in range(40):
            loom, inputs = Loom(TERMS), {"a": [], "b": []}
            for _ in range(6):
                name, change = source.choice("ab"), chance.bag(source)
                loom.feed(name, change)
                inputs[name] = plus(inputs[name], change)
                if source.random() < 0.5:
                    self.check_all(loom, TERMS, inputs)
            self.check_all(loom, TERMS, inputs)


class Refreshing(LoomCase):
    def test_a_view_is_as_new_as_its_refresh_or_newer(self):
        loom = Loom(GRAPH)
        loom.feed("edge", [((1, 2), 1)])
        loom.refresh("path")
        loom.feed("edge", [((2, 3), 1)])
        loom.refresh("free")
        self.check_all(loom, GRAPH, {"edge": [((1, 2), 1), ((2, 3), 1)]})

    def test_any_order(self):
        edges = [((1, 2), 1), ((2, 3), 1), ((3, 1), 1), ((1, 2), -1), ((2, 4), 1)]
        source = random.Random(35)
        for _ in range(60):
            loom, inputs = Loom(GRAPH), {"edge": [], "closed": []}
            for row, count in edges:
                loom.feed("edge", [(row, count)])
                inputs["edge"] = plus(inputs["edge"], [(row, count)])
                if source.random() < 0.4:
                    loom.feed("closed", [((2,), 1)])
                    inputs["closed"] = plus(inputs["closed"], [((2,), 1)])
                for name in source.sample(names_of(GRAPH)[1], source.randint(0, 3)):
                    loom.refresh(name)
                name = source.choice(names_of(GRAPH)[1])
                self.assertEqual(loom.read(name), evaluate_program(GRAPH, inputs)[name])
            self.check_all(loom, GRAPH, inputs)

    def test_refreshing_twice_adds_nothing_twice(self):
        loom = Loom(TERMS)
        loom.feed("a", [((1, 2), 1)])
        for _ in range(3):
            for name in names_of(TERMS)[1]:
                loom.refresh(name)
        self.check_all(loom, TERMS, {"a": [((1, 2), 1)]})

    def test_only_one_view_is_ever_read(self):
        source = random.Random(36)
        for name in names_of(GRAPH)[1]:
            loom, inputs = Loom(GRAPH), {"edge": [], "closed": []}
            for _ in range(12):
                other = source.choice(("edge", "edge", "closed"))
                row = tuple(source.randint(1, 3) for _ in range(2 if other == "edge" else 1))
                change = [(row, source.choice((-1, 1, 1)))]
                loom.feed(other, change)
                inputs[other] = plus(inputs[other], change)
                self.assertEqual(loom.read(name), evaluate_program(GRAPH, inputs)[name])
            self.check_all(loom, GRAPH, inputs)

    def test_a_view_that_refers_to_one_name_directly_and_through_another_view(self):
        program = ("program", ["a"], [
            ("twice", "term", ("plus", ("old", "a"), ("old", "a"))),
            ("square", "term", ("join", [], [], [FIRST, SECOND], ("old", "a"), ("old", "twice"))),
            ("rest", "rules", [([X], [("yes", "a", [X]), ("no", "twice", [Y]), ("yes", "square", [X, Y])])]),
        ])
        loom, inputs = Loom(program), {"a": []}
        for change in ([((1,), 1)], [((2,), -3)], [((1,), -1), ((2,), 4)], [((2,), -1)]):
            loom.feed("a", change)
            inputs["a"] = plus(inputs["a"], change)
            loom.refresh("twice")
            self.check_all(loom, program, inputs)

    def test_random_programs(self):
        source = random.Random(37)
        for _ in range(120):
            program = chance.program(source)
            loom, inputs = Loom(program), {name: [] for name in program[1]}
            for _ in range(8):
                self.random_action(source, loom, program, inputs)
            self.check_all(loom, program, inputs)

    def random_action(self, source, loom, program, inputs):
        names, views = names_of(program)
        if source.random() < 0.6:
            name = source.choice(names)
            change = chance.bag(source) if source.random() < 0.8 else minus([], inputs[name])
            loom.feed(name, change)
            inputs[name] = plus(inputs[name], change)
        elif source.random() < 0.5:
            loom.refresh(source.choice(views))
        else:
            name = source.choice(views)
            self.assertEqual(loom.read(name), evaluate_program(program, inputs)[name], (program, inputs))

    def test_a_long_chain_of_views(self):
        letters = "abcdefghijklmnopqrstuvwxyz"
        names = ["v" + letters[k // 676] + letters[k // 26 % 26] + letters[k % 26] for k in range(2000)]
        terms = [("neg", ("old", name)) for name in ["a"] + names[:-1]]
        program = ("program", ["a"], [(name, "term", term) for name, term in zip(names, terms)])
        loom = Loom(program)
        loom.feed("a", [((1,), 1)])
        self.assertEqual(loom.read(names[-1]), [((1,), 1)])
        self.assertEqual(loom.read(names[0]), [((1,), -1)])


class KeptUp(LoomCase):
    """Views are kept up by their changes, and not computed anew."""

    def test_a_view_is_not_evaluated_again(self):
        with mock.patch.object(looms, "evaluate_program", wraps=evaluate_program) as evaluation:
            loom = Loom(GRAPH)
            self.assertEqual(evaluation.call_count, 1)
            loom.feed("edge", [((1, 2), 1)])
            self.check_all(loom, GRAPH, {"edge": [((1, 2), 1)]})
            self.assertEqual(evaluation.call_count, 1)

    def test_a_term_is_kept_up_by_its_simplified_derivative(self):
        program = ("program", ["a"], [
            ("v", "term", ("join", [FIRST], [FIRST], [FIRST], ("old", "a"), ("bag", [((1,), 1)]))),
        ])
        change = [((1,), 2)]
        with mock.patch.object(looms, "value", wraps=looms.value) as computed:
            loom = Loom(program)
            loom.feed("a", [((1,), 5)])
            loom.refresh("v")
            loom.feed("a", change)
            loom.refresh("v")
            self.assertEqual(computed.call_count, 2)
            term, olds, changes = computed.call_args.args
            self.assertEqual(term, ("join", [FIRST], [FIRST], [FIRST], ("change", "a"), ("bag", [((1,), 1)])))
            self.assertEqual((olds, changes), ({"a": [((1,), 5)]}, {"a": change}))

    def test_rules_are_kept_up_from_the_old_and_the_new_sets(self):
        loom = Loom(("program", ["edge"], [("path", "rules", PATH)]))
        loom.feed("edge", [((1, 2), 2), ((2, 3), 1)])
        loom.refresh("path")
        with mock.patch.object(looms, "updated_set", wraps=looms.updated_set) as computed:
            loom.feed("edge", [((1, 2), -2), ((3, 4), 1)])
            loom.refresh("path")
            self.assertEqual(computed.call_count, 1)
            rules, own, olds, news, rows = computed.call_args.args
            self.assertEqual((rules, own, rows), (PATH, "path", [(1, 2), (1, 3), (2, 3)]))
            self.assertEqual(olds, {"edge": {(1, 2): True, (2, 3): True}})
            self.assertEqual(news, {"edge": {(2, 3): True, (3, 4): True}})

    def test_nothing_is_computed_where_nothing_has_changed(self):
        loom = Loom(GRAPH)
        loom.feed("edge", [((1, 2), 1)])
        loom.feed("closed", [((7,), 1)])
        for name in names_of(GRAPH)[1]:
            loom.refresh(name)
        with mock.patch.object(looms, "updated_set") as rules, mock.patch.object(looms, "value") as terms:
            loom.refresh("both")
            loom.feed("edge", [((5, 6), 1)])
            loom.feed("edge", [((5, 6), -1)])
            for name in names_of(GRAPH)[1]:
                loom.refresh(name)
            self.assertEqual((rules.call_count, terms.call_count), (0, 0))

    def test_a_view_that_is_not_asked_for_is_not_computed(self):
        program = ("program", ["a"], [
            ("v", "term", ("old", "a")), ("w", "term", ("neg", ("old", "a"))), ("x", "term", ("neg", ("old", "v"))),
        ])
        loom = Loom(program)
        with mock.patch.object(looms, "value", wraps=looms.value) as computed:
            loom.feed("a", [((1,), 1)])
            self.assertEqual(loom.read("w"), [((1,), -1)])
            self.assertEqual(loom.read("a"), [((1,), 1)])
            self.assertEqual(computed.call_count, 1)


class Names(LoomCase):
    def check_unknown(self, loom, method, *arguments):
        with self.assertRaises(NameUnknown) as caught:
            getattr(loom, method)(*arguments)
        self.assertEqual(caught.exception.name, arguments[0])

    def test_unknown_names(self):
        loom = Loom(GRAPH)
        loom.feed("edge", [((1, 2), 1)])
        for name in ("", "edges", "program", "v"):
            self.check_unknown(loom, "feed", name, [((5, 6), 1)])
            self.check_unknown(loom, "refresh", name)
            self.check_unknown(loom, "read", name)
        self.check_all(loom, GRAPH, {"edge": [((1, 2), 1)]})

    def test_a_view_is_not_fed_and_an_input_is_not_refreshed(self):
        loom = Loom(GRAPH)
        loom.feed("edge", [((1, 2), 1)])
        for name in names_of(GRAPH)[1]:
            self.check_unknown(loom, "feed", name, [((5, 6), 1)])
        for name in names_of(GRAPH)[0]:
            self.check_unknown(loom, "refresh", name)
        self.check_all(loom, GRAPH, {"edge": [((1, 2), 1)]})


class Sharing(LoomCase):
    def test_a_change_that_was_fed_may_be_changed_afterwards(self):
        for program in (GRAPH, TERMS):
            name = program[1][0]
            for early in (True, False):
                loom, change = Loom(program), [((1, 2), 1), ((2, 3), 1)]
                loom.feed(name, change)
                if early:
                    loom.read(program[2][-1][0])
                change.clear()
                self.check_all(loom, program, {name: [((1, 2), 1), ((2, 3), 1)]})

    def test_a_bag_that_was_read_may_be_changed_afterwards(self):
        source = random.Random(38)
        for program in [GRAPH, TERMS] + [chance.program(source) for _ in range(20)]:
            loom = Loom(program)
            name = program[1][0]
            loom.feed(name, [((1, 2), 1), ((2, 1), -1)])
            for other in names_of(program)[0] + names_of(program)[1]:
                loom.read(other).append(((99,), 1))
                loom.read(other).clear()
            self.check_all(loom, program, {name: [((1, 2), 1), ((2, 1), -1)]})

    def test_the_program_may_be_changed_afterwards(self):
        source = random.Random(39)
        for program in [GRAPH, TERMS] + [chance.program(source) for _ in range(40)]:
            given, name = copy.deepcopy(program), program[1][0]
            loom = Loom(given)
            self.assertEqual(given, program)
            spoil(given)
            loom.feed(name, [((1, 2), 1), ((2, 1), -1)])
            self.check_all(loom, program, {name: [((1, 2), 1), ((2, 1), -1)]})

    def test_no_list_of_the_program_is_kept(self):
        for program in (GRAPH, TERMS):
            loom = Loom(program)
            held = [held_in(vars(loom))] + [held_in(vars(view)) for view in loom.views.values()]
            self.assertFalse(shared(held, program))

    def test_no_argument_is_changed(self):
        change = [((1, 2), 1), ((2, 1), -1)]
        for program in (GRAPH, TERMS):
            loom = Loom(program)
            check_call(self, loom.feed, [program[1][0], change])
            for name in names_of(program)[0] + names_of(program)[1]:
                check_call(self, loom.read, [name])

    def test_one_change_that_is_fed_twice(self):
        loom, change = Loom(TERMS), [((1, 2), 1)]
        loom.feed("a", change)
        loom.feed("b", change)
        loom.feed("a", change)
        self.check_all(loom, TERMS, {"a": [((1, 2), 2)], "b": [((1, 2), 1)]})
        self.assertEqual(change, [((1, 2), 1)])

    def test_two_looms_of_one_program(self):
        one, other = Loom(GRAPH), Loom(GRAPH)
        one.feed("edge", [((1, 2), 1)])
        self.check_all(other, GRAPH, {})
        self.check_all(one, GRAPH, {"edge": [((1, 2), 1)]})


class Programs(unittest.TestCase):
    def test_made_up_programs_are_of_all_sorts(self):
        """The random tests would be worth little if their programs were all alike."""
        source = random.Random(37)
        views = [view for _ in range(120) for view in chance.program(source)[2]]
        kinds = {view[1] for view in views}
        self.assertEqual(kinds, {"term", "rules"})
        self.assertTrue(any(set(sources(view)) & {"va", "vb", "vc", "vd"} for view in views if view[1] == "term"))
        self.assertTrue(any(set(sources(view)) & {"va", "vb", "vc", "vd"} for view in views if view[1] == "rules"))
        rules = [view for view in views if view[1] == "rules"]
        self.assertTrue(any(atom[1] == view[0] for view in rules for _, body in view[2] for atom in body))
        self.assertTrue(any(atom[0] == "no" for view in rules for _, body in view[2] for atom in body))


if __name__ == "__main__":
    unittest.main()
