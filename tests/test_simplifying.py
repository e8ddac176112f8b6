import random
import unittest

import chance
from deltaloom.deriving import derivative
from deltaloom.rewriting import paper_right
from deltaloom.simplifying import simplified
from deltaloom.terms import value
from plain_papers import ZERO
from sharing import check_call, held_in, shared

A, B, C = ("old", "a"), ("new", "b"), ("change", "c")
FIRST, SECOND = ("at", 0), ("at", 1)
FIXED = ("bag", [((1,), 2)])
MANY_PARTS = {"map": 1, "keep": 1, "plus": 2, "neg": 1, "join": 2, "once": 1, "fold": 1}


def join(first, second):
    return ("join", [FIRST], [SECOND], [FIRST], first, second)


def fold(term, kind="count"):
    return ("fold", [FIRST], kind, SECOND, term)


# Around a term, whatever is 0 if the term is.
STRICT = [
    lambda t: ("map", [FIRST], t), lambda t: ("keep", FIRST, t), lambda t: ("neg", t), lambda t: ("plus", t, ZERO),
    lambda t: ("plus", ZERO, t), lambda t: join(t, A), lambda t: join(A, t), lambda t: ("once", t), fold,
    lambda t: fold(t, "sum"), lambda t: fold(t, "least"), lambda t: fold(t, "most"),
]


def subterms(term):
    """The term and all its subterms."""
    found = [term]
    for part in term[len(term) - MANY_PARTS.get(term[0], 0):]:
        found += subterms(part)
    return found


def left_over(term):
    """The subterms that point 16 leaves no room for."""
    found = []
    for part in subterms(term):
        below = part[len(part) - MANY_PARTS.get(part[0], 0):]
        if ZERO in below or part[0] == "neg" and below[0][0] == "neg":
            found.append(part)
    return found


class Simplified(unittest.TestCase):
    def check(self, term):
        found = simplified(term)
        self.assertIsInstance(found, tuple)
        simpler, paper = found
        self.assertEqual(left_over(simpler), [], term)
        self.assertLessEqual(len(subterms(simpler)), len(subterms(term)))
        self.assertIsInstance(paper, tuple)
        self.assertEqual(paper[:2], (term, simpler))
        self.assertIsInstance(paper[2], list)
        self.assertTrue(paper_right(paper), term)
        self.assertEqual(simplified(simpler), (simpler, (simpler, simpler, [])), term)

    def check_result(self, term, simpler):
        self.assertEqual(simplified(term)[0], simpler)
        self.check(term)

    def test_terms_that_are_simple_already(self):
        for term in (
            A, B, C, FIXED, ZERO, ("map", [FIRST], A), ("keep", FIRST, A), ("neg", A), ("plus", A, A), join(A, B),
            ("once", A), fold(A), ("neg", FIXED), ("plus", A, ("neg", A)), ("map", [], FIXED), ("neg", ("once", ("neg", A))),
        ):
            self.check_result(term, term)
            self.assertEqual(simplified(term)[1], (term, term, []))

    def test_plus(self):
        self.check_result(("plus", A, ZERO), A)
        self.check_result(("plus", ZERO, A), A)
        self.check_result(("plus", ZERO, ZERO), ZERO)
        self.check_result(("plus", ("plus", ZERO, B), ("plus", A, ZERO)), ("plus", B, A))

    def test_neg(self):
        self.check_result(("neg", ZERO), ZERO)
        term = A
        for k in range(7):
            self.check_result(term, ("neg", A) if k % 2 else A)
            term = ("neg", term)

    def test_a_neg_of_what_becomes_a_neg(self):
        self.check_result(("neg", ("plus", ("neg", A), ZERO)), A)
        self.check_result(("neg", ("plus", ZERO, ("neg", ("neg", A)))), ("neg", A))
        self.check_result(("neg", ("neg", ("neg", ("plus", ZERO, ("neg", ZERO))))), ZERO)

    def test_operations_on_0(self):
        for around in STRICT:
            self.check_result(around(ZERO), ZERO)
            self.check_result(("neg", around(ZERO)), ZERO)
        self.check_result(join(ZERO, ZERO), ZERO)

    def test_operations_on_what_becomes_0(self):
        for outer in STRICT:
            for inner in STRICT:
                self.check_result(outer(inner(ZERO)), ZERO)
                self.check_result(("plus", B, outer(inner(ZERO))), B)

    def test_operations_on_other_bags_stay(self):
        for around in STRICT[:3] + STRICT[5:]:
            self.check_result(around(FIXED), around(FIXED))
            self.check_result(around(("plus", ZERO, FIXED)), around(FIXED))

    def test_parts_that_are_not_0_are_simplified_too(self):
        self.check_result(join(("plus", A, ZERO), ("neg", ("neg", B))), join(A, B))
        self.check_result(fold(("map", [], ("plus", ("keep", FIRST, ZERO), C))), fold(("map", [], C)))

    def test_the_derivative_of_a_view_with_a_constant(self):
        term = join(("old", "a"), FIXED)
        self.check_result(derivative(term), join(("change", "a"), FIXED))
        self.check_result(derivative(("plus", ("old", "a"), FIXED)), ("change", "a"))

    def test_random_terms_with_many_empty_bags(self):
        source = random.Random(27)
        kinds = set()
        for _ in range(800):
            term = chance.replaced_parts(source, chance.term(source, 5), 0.15, lambda: ("bag", []))
            self.check(term)
            kinds |= {part[0] for part in subterms(simplified(term)[0])}
        self.assertEqual(len(kinds), 11)

    def test_random_terms_with_many_negs(self):
        source = random.Random(28)
        for _ in range(300):
            term = chance.term(source, 3)
            for _ in range(3):
                other = ("neg", chance.term(source, 1))
                term = ("neg", chance.replaced_parts(source, term, 0.2, lambda: other))
            self.check(term)

    def test_random_derivatives(self):
        source = random.Random(29)
        for _ in range(150):
            self.check(derivative(chance.term(source, 4, ("old",))))

    def test_the_meaning_stays(self):
        source = random.Random(30)
        for _ in range(400):
            term = chance.replaced_parts(source, chance.term(source, 4), 0.1, lambda: ("bag", []))
            olds, changes = chance.bags(source), chance.bags(source)
            self.assertEqual(value(simplified(term)[0], olds, changes), value(term, olds, changes), term)

    def test_deep_terms(self):
        term = A
        for _ in range(600):
            term = ("neg", ("plus", ZERO, ("map", [FIRST], ("neg", ("neg", term)))))
        simpler, paper = simplified(term)
        self.assertTrue(paper_right(paper))
        self.assertEqual(simplified(("once", ("keep", FIRST, ZERO)))[0], ZERO)
        for _ in range(600):
            self.assertEqual((simpler[0], simpler[1][0]), ("neg", "map"))
            simpler = simpler[1][2]
        self.assertEqual(simpler, A)


class Sharing(unittest.TestCase):
    def test_nothing_is_changed_or_shared(self):
        source = random.Random(31)
        for term in (A, ZERO, FIXED, ("plus", ZERO, FIXED), ("neg", ("neg", ("map", [FIRST], A))), join(ZERO, FIXED)):
            check_call(self, simplified, [term])
        for _ in range(100):
            term = chance.replaced_parts(source, chance.term(source, 4), 0.1, lambda: ("bag", []))
            check_call(self, simplified, [term])
            self.assertFalse(shared(simplified(term), term))

    def test_no_list_is_in_two_places(self):
        found = simplified(("plus", ZERO, fold(("map", [FIRST], FIXED))))
        marks = [id(held) for held in held_in(found)]
        self.assertEqual(len(marks), len(set(marks)))


if __name__ == "__main__":
    unittest.main()
