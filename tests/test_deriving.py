import random
import unittest

import chance
from deltaloom.bags import plus
from deltaloom.deriving import derivative, derivative_paper
from deltaloom.rewriting import paper_right
from deltaloom.terms import new_form, value
from plain_papers import plain_derivative
from sharing import check_call, held_in, shared

A, B = ("old", "a"), ("old", "b")
DA, DB = ("change", "a"), ("change", "b")
ZERO = ("bag", [])
FIXED = ("bag", [((1,), 2), (("x",), -1)])
FIRST, SECOND = ("at", 0), ("at", 1)


def join(first, second):
    return ("join", [FIRST], [SECOND], [FIRST, ("at", 2)], first, second)


def fold(kind, term):
    return ("fold", [FIRST], kind, SECOND, term)


# All kinds of terms around a term.
AROUND = [
    lambda t: ("map", [SECOND, FIRST], t), lambda t: ("keep", FIRST, t), lambda t: ("neg", t),
    lambda t: ("plus", t, B), lambda t: ("plus", B, t), lambda t: ("plus", t, t), lambda t: ("plus", FIXED, t),
    lambda t: join(t, B), lambda t: join(B, t), lambda t: join(t, t), lambda t: join(FIXED, t),
    lambda t: ("once", t), lambda t: fold("count", t), lambda t: fold("sum", t), lambda t: fold("least", t),
    lambda t: fold("most", t),
]
LEAVES = [A, FIXED, ZERO]


def simple_terms():
    """All kinds of simple terms with up to three operations within one another."""
    one = [around(leaf) for around in AROUND for leaf in LEAVES]
    two = [outer(inner(leaf)) for outer in AROUND for inner in AROUND for leaf in (A, FIXED)]
    three = [outer(middle(inner(A))) for outer in AROUND for middle in AROUND for inner in AROUND]
    return LEAVES + one + two + three


class Derivatives(unittest.TestCase):
    def test_the_example_of_the_interface(self):
        found = derivative(("once", ("old", "a")))
        self.assertEqual(found, ("plus", ("once", ("plus", ("old", "a"), ("change", "a"))), ("neg", ("once", ("old", "a")))))

    def test_names_and_constants(self):
        self.assertEqual(derivative(A), DA)
        self.assertEqual(derivative(("old", "edge")), ("change", "edge"))
        self.assertEqual(derivative(FIXED), ZERO)
        self.assertEqual(derivative(ZERO), ZERO)

    def test_map_keep_neg_and_plus(self):
        self.assertEqual(derivative(("map", [FIRST, SECOND], A)), ("map", [FIRST, SECOND], DA))
        self.assertEqual(derivative(("map", [], FIXED)), ("map", [], ZERO))
        self.assertEqual(derivative(("keep", ("=", FIRST, SECOND), A)), ("keep", ("=", FIRST, SECOND), DA))
        self.assertEqual(derivative(("neg", A)), ("neg", DA))
        self.assertEqual(derivative(("plus", A, B)), ("plus", DA, DB))
        self.assertEqual(derivative(("plus", FIXED, A)), ("plus", ZERO, DA))

    def test_join(self):
        self.assertEqual(derivative(join(A, B)), ("plus", join(A, DB), ("plus", join(DA, B), join(DA, DB))))
        self.assertEqual(derivative(join(A, A)), ("plus", join(A, DA), ("plus", join(DA, A), join(DA, DA))))
        self.assertEqual(derivative(join(A, FIXED)), ("plus", join(A, ZERO), ("plus", join(DA, FIXED), join(DA, ZERO))))

    def test_a_join_keeps_its_three_lists_in_their_places(self):
        lists = ([FIRST], [SECOND], [("const", "x"), ("at", 2)])
        for term in (derivative(("join",) + lists + (A, B))[1], derivative(("join",) + lists + (A, B))[2][2]):
            self.assertEqual(term[:4], ("join",) + lists)

    def test_once_and_fold(self):
        self.assertEqual(derivative(("once", B)), ("plus", ("once", ("plus", B, DB)), ("neg", ("once", B))))
        for kind in ("count", "sum", "least", "most"):
            found = derivative(fold(kind, A))
            self.assertEqual(found, ("plus", fold(kind, ("plus", A, DA)), ("neg", fold(kind, A))))
        found = derivative(("once", FIXED))
        self.assertEqual(found, ("plus", ("once", ("plus", FIXED, ZERO)), ("neg", ("once", FIXED))))

    def test_operations_within_one_another(self):
        once = ("plus", ("once", ("plus", A, DA)), ("neg", ("once", A)))
        self.assertEqual(derivative(("map", [FIRST], ("keep", SECOND, ("neg", A)))), ("map", [FIRST], ("keep", SECOND, ("neg", DA))))
        self.assertEqual(derivative(("neg", ("once", A))), ("neg", once))
        self.assertEqual(derivative(("plus", ("once", A), ("neg", B))), ("plus", once, ("neg", DB)))
        inner = ("neg", A)
        found = derivative(("once", inner))
        self.assertEqual(found, ("plus", ("once", ("plus", inner, ("neg", DA))), ("neg", ("once", inner))))
        twice = ("plus", ("once", ("plus", ("once", A), once)), ("neg", ("once", ("once", A))))
        self.assertEqual(derivative(("once", ("once", A))), twice)
        inner = ("plus", A, B)
        change = ("plus", DA, DB)
        found = derivative(join(("neg", A), inner))
        later = ("plus", join(("neg", DA), inner), join(("neg", DA), change))
        self.assertEqual(found, ("plus", join(("neg", A), change), later))

    def test_all_kinds_of_terms_word_by_word(self):
        for term in simple_terms():
            self.assertEqual(derivative(term), plain_derivative(term))

    def test_random_terms_word_by_word(self):
        source = random.Random(11)
        for _ in range(500):
            term = chance.term(source, 4, ("old",))
            self.assertEqual(derivative(term), plain_derivative(term))

    def test_terms_that_read_like_names(self):
        texts = ("keep", ("=", ("const", "old"), ("const", "once")), A)
        self.assertEqual(derivative(texts), texts[:2] + (DA,))
        self.assertEqual(derivative(("bag", [(("old", "a"), 1)])), ZERO)

    def test_deep_terms(self):
        term, change = A, DA
        for k in range(3000):
            term, change = ("neg", ("plus", term, FIXED)), ("neg", ("plus", change, ZERO))
        found = derivative(term)
        for _ in range(3000):
            self.assertEqual((found[0], found[1][0], found[1][2]), ("neg", "plus", ZERO))
            found = found[1][1]
        self.assertEqual(found, DA)


class Meaning(unittest.TestCase):
    """Point 12: the new form denotes the sum of what the term and its derivative denote."""

    def check(self, term, olds, changes):
        before, change = value(term, olds, changes), value(derivative(term), olds, changes)
        self.assertEqual(value(new_form(term), olds, changes), plus(before, change), (term, olds, changes))

    def test_all_kinds_of_terms(self):
        source = random.Random(12)
        for term in simple_terms():
            self.check(term, chance.bags(source), chance.bags(source))

    def test_random_terms(self):
        source = random.Random(13)
        for _ in range(800):
            self.check(chance.term(source, 4, ("old",)), chance.bags(source), chance.bags(source))

    def test_changes_that_take_away_all_and_changes_of_nothing(self):
        bag = [((1, 2), 3), ((2, 1), -1)]
        for term in simple_terms()[:200]:
            self.check(term, {"a": bag, "b": bag}, {"a": [((1, 2), -3), ((2, 1), 1)]})
            self.check(term, {"a": bag}, {})
            self.check(term, {}, {"a": bag})


class Papers(unittest.TestCase):
    def check(self, term):
        paper = derivative_paper(term)
        self.assertIsInstance(paper, tuple)
        left, right, steps = paper
        self.assertEqual(left, new_form(term))
        self.assertEqual(right, ("plus", term, derivative(term)))
        self.assertIsInstance(steps, list)
        for step in steps:
            self.assertIsInstance(step, tuple)
            position, identity, forward, extra = step
            self.assertIsInstance(position, tuple)
            self.assertIn(forward, (True, False))
        self.assertTrue(paper_right(paper), term)

    def test_the_smallest_terms(self):
        self.assertEqual(derivative_paper(A), (("new", "a"), ("plus", A, DA), [((), "new", True, None)]))
        self.assertEqual(derivative_paper(FIXED), (FIXED, ("plus", FIXED, ZERO), [((), "zero", False, None)]))

    def test_all_kinds_of_terms_within_one_another(self):
        for term in simple_terms():
            self.check(term)

    def test_random_terms(self):
        source = random.Random(14)
        for _ in range(400):
            self.check(chance.term(source, 5, ("old",)))

    def test_deep_terms(self):
        term = A
        for _ in range(400):
            term = ("neg", ("map", [FIRST], ("plus", term, B)))
        self.assertTrue(paper_right(derivative_paper(term)))

    def test_no_step_can_be_left_out(self):
        for term in [around(A) for around in AROUND] + [around(("once", A)) for around in AROUND]:
            left, right, steps = derivative_paper(term)
            for k in range(len(steps)):
                self.assertFalse(paper_right((left, right, steps[:k] + steps[k + 1:])), (term, k))


class Sharing(unittest.TestCase):
    def test_nothing_is_changed_or_shared(self):
        for term in simple_terms()[:180]:
            check_call(self, derivative, [term])
            check_call(self, derivative_paper, [term])

    def test_random_terms(self):
        source = random.Random(15)
        for _ in range(150):
            term = chance.term(source, 4, ("old",))
            self.assertFalse(shared(derivative(term), term))
            self.assertFalse(shared(derivative_paper(term), term))

    def test_no_list_is_in_two_places(self):
        for term in simple_terms()[:60]:
            for found in (derivative(term), derivative_paper(term)):
                marks = [id(held) for held in held_in(found)]
                self.assertEqual(len(marks), len(set(marks)))


if __name__ == "__main__":
    unittest.main()
