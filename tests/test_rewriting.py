import copy
import itertools
import random
import unittest

import chance
from deltaloom.deriving import derivative_paper
from deltaloom.rewriting import other_side, paper_right, rewritten, subterm
from deltaloom.terms import value
from plain_papers import ZERO, plain_other_side, sides
from sharing import check_call, held_in, shared

A, B, C = ("old", "a"), ("new", "b"), ("change", "c")
FIRST, SECOND = ("at", 0), ("at", 1)
FIXED = ("bag", [((1,), 2), (("x",), -1)])
K, L, M = [FIRST], [SECOND], [FIRST, ("const", "x")]
SIDES = sides(A, B, C, "a", K, L, M, SECOND)
IDENTITIES = sorted(SIDES)
NEED_FORWARD = ("differ",)
NEED_BACKWARD = ("cancel", "mapzero", "keepzero", "leftzero", "rightzero", "foldzero")
# Those whose sides have a form, and not any term.
FORMED = {(name, way) for name in IDENTITIES for way in (True, False)}
FORMED -= {("differ", True), ("zero", False), ("twice", False)}
# A term of each kind, and the number of its parts.
KINDS = [
    (A, 0), (B, 0), (C, 0), (FIXED, 0), (ZERO, 0), (("map", K, A), 1), (("keep", FIRST, A), 1), (("plus", A, B), 2),
    (("neg", A), 1), (("join", K, L, M, A, B), 2), (("once", A), 1), (("fold", K, "least", FIRST, A), 1),
]


def join(first, second, left=K, right=L, exprs=M):
    return ("join", left, right, exprs, first, second)


def parts_of(term):
    """The subterms directly below a term."""
    many = {kind[0]: many for kind, many in KINDS}[term[0]]
    return term[len(term) - many:]


def positions(term):
    """The positions of all subterms."""
    found = [()]
    for k, part in enumerate(parts_of(term)):
        found += [(k,) + position for position in positions(part)]
    return found


def at_position(term, position):
    for k in position:
        term = parts_of(term)[k]
    return term


def with_subterm(term, position, other):
    """The term with another subterm at a position."""
    if position == ():
        return other
    parts = list(parts_of(term))
    parts[position[0]] = with_subterm(parts[position[0]], position[1:], other)
    return term[:len(term) - len(parts)] + tuple(parts)


def random_sides(source):
    """The sides of all identities for random parts."""
    a, b, c = [chance.term(source, source.randint(0, 2)) for _ in range(3)]
    return sides(a, b, c, source.choice(chance.NAMES), *[chance.exprs(source) for _ in range(3)], chance.expr(source))


class Identities(unittest.TestCase):
    def test_the_example_of_the_interface(self):
        self.assertEqual(other_side("new", True, ("new", "a"), None), ("plus", ("old", "a"), ("change", "a")))

    def test_there_are_23(self):
        self.assertEqual(len(IDENTITIES), 23)

    def test_both_directions(self):
        for name in IDENTITIES:
            left, right, forward, backward = SIDES[name]
            self.assertEqual(other_side(name, True, left, forward), right, name)
            self.assertEqual(other_side(name, False, right, backward), left, name)

    def test_both_directions_with_random_parts(self):
        source = random.Random(16)
        for _ in range(150):
            held = random_sides(source)
            for name in IDENTITIES:
                left, right, forward, backward = held[name]
                self.assertEqual(other_side(name, True, left, forward), right, name)
                self.assertEqual(other_side(name, False, right, backward), left, name)

    def test_an_extra_that_is_needed_and_missing(self):
        for name in IDENTITIES:
            left, right, _, _ = SIDES[name]
            self.assertEqual(other_side(name, True, left, None) is None, name in NEED_FORWARD, name)
            self.assertEqual(other_side(name, False, right, None) is None, name in NEED_BACKWARD, name)

    def test_an_extra_that_is_not_needed_is_not_looked_at(self):
        extras = {"mapzero": K, "keepzero": SECOND}
        for name in IDENTITIES:
            left, right, _, _ = SIDES[name]
            for extra in (extras.get(name, A), extras.get(name, ZERO), extras.get(name, ("plus", A, B))):
                if name not in NEED_FORWARD:
                    self.assertEqual(other_side(name, True, left, extra), right, name)
                if name not in NEED_BACKWARD:
                    self.assertEqual(other_side(name, False, right, extra), left, name)

    def test_a_whole_left_side_that_is_none(self):
        fold = ("fold", K, "count", FIRST, ZERO)
        once = ("once", ZERO)
        wrong = {
            "leftzero": [A, ZERO, join(A, ZERO), join(A, B), join(FIXED, A), join(("neg", ZERO), A), fold, once],
            "rightzero": [A, ZERO, join(ZERO, A), join(A, B), join(A, FIXED), join(A, ("neg", ZERO)), fold, once],
            "foldzero": [A, ZERO, ("fold", K, "count", FIRST, A), ("fold", K, "count", FIRST, FIXED), once, join(ZERO, ZERO),
                         ("map", K, ZERO), ("neg", fold)],
        }
        for name in wrong:
            for extra in wrong[name]:
                self.assertIsNone(other_side(name, False, ZERO, extra), (name, extra))

    def test_a_whole_left_side(self):
        both = join(ZERO, ZERO)
        for name in ("leftzero", "rightzero"):
            self.assertEqual(other_side(name, False, ZERO, both), both)
        for kind in ("count", "sum", "least", "most"):
            fold = ("fold", [], kind, ("const", 1), ZERO)
            self.assertEqual(other_side("foldzero", False, ZERO, fold), fold)

    def test_an_extra_for_a_term_that_is_not_the_side(self):
        for name in NEED_BACKWARD:
            for term in (A, FIXED, ("neg", ZERO), ("plus", ZERO, ZERO), ("once", ZERO)):
                self.assertIsNone(other_side(name, False, term, SIDES[name][3]), name)

    def test_extras_of_all_kinds_of_terms(self):
        for extra, _ in KINDS:
            self.assertEqual(other_side("cancel", False, ZERO, extra), ("plus", extra, ("neg", extra)))
            self.assertEqual(other_side("differ", True, A, extra), ("plus", extra, ("plus", A, ("neg", extra))))
        self.assertEqual(other_side("mapzero", False, ZERO, []), ("map", [], ZERO))
        self.assertEqual(other_side("keepzero", False, ZERO, ("const", "")), ("keep", ("const", ""), ZERO))

    def test_parts_that_are_shown_twice_and_not_equal(self):
        keep = [("keep", e, A) for e in (FIRST, SECOND)]
        maps = [("map", exprs, A) for exprs in (K, L)]
        wrong = [
            ("new", False, ("plus", ("old", "a"), ("change", "b"))),
            ("cancel", True, ("plus", A, ("neg", B))), ("cancel", True, ("plus", ("old", "a"), ("neg", ("new", "a")))),
            ("map", False, ("plus", maps[0], maps[1])), ("map", False, ("plus", ("map", K + K, A), ("map", K, A))),
            ("keep", False, ("plus", keep[0], keep[1])),
            ("left", False, ("plus", join(A, B), join(A, C))), ("right", False, ("plus", join(A, B), join(C, B))),
            ("left", False, ("plus", join(A, B), join(B, A))), ("right", False, ("plus", join(A, B), join(B, A))),
            ("differ", False, ("plus", A, ("plus", B, ("neg", C)))),
        ]
        for name, lists in itertools.product(("left", "right"), ((L, L, M), (K, K, M), (K, L, K))):
            wrong.append((name, False, ("plus", join(A, B), join(A, B, *lists))))
        for name, forward, term in wrong:
            self.assertIsNone(other_side(name, forward, term, None), (name, term))

    def test_parts_that_are_shown_twice_and_are_equal_but_not_one_object(self):
        for name in IDENTITIES:
            left, right, forward, backward = SIDES[name]
            self.assertEqual(other_side(name, True, copy.deepcopy(left), forward), right)
            self.assertEqual(other_side(name, False, copy.deepcopy(right), backward), left)

    def test_an_integer_and_its_text_are_not_equal(self):
        one, other = ("bag", [((1,), 1)]), ("bag", [(("1",), 1)])
        self.assertIsNone(other_side("cancel", True, ("plus", one, ("neg", other)), None))
        self.assertEqual(other_side("cancel", True, ("plus", one, ("neg", one)), None), ZERO)

    def test_a_term_that_lacks_the_form_of_the_side(self):
        for name, forward in sorted(FORMED):
            for term, _ in KINDS:
                found = other_side(name, forward, term, None)
                self.assertEqual(found, plain_other_side(name, forward, term, None), (name, forward, term))
            self.assertIsNone(other_side(name, forward, FIXED, SIDES[name][3]), (name, forward))

    def test_a_bag_that_is_not_empty_is_not_0(self):
        for name in IDENTITIES:
            for forward in (True, False):
                term = SIDES[name][0 if forward else 1]
                if ZERO in [at_position(term, position) for position in positions(term)]:
                    for position in positions(term):
                        if at_position(term, position) == ZERO:
                            other = with_subterm(term, position, FIXED)
                            self.assertIsNone(other_side(name, forward, other, SIDES[name][3]), name)

    def test_names_of_identities_that_do_not_exist(self):
        for name in ("", "New", "news", "mapzer", "once", "fold", "join", "plus", "0", "a", "negneg", "new "):
            for forward in (True, False):
                for term in (A, B, ZERO, ("plus", A, B), ("neg", ("neg", A))):
                    self.assertIsNone(other_side(name, forward, term, None))
                    self.assertIsNone(other_side(name, forward, term, A))

    def test_the_meaning_stays(self):
        source = random.Random(17)
        for _ in range(60):
            held = random_sides(source)
            olds, changes = chance.bags(source), chance.bags(source)
            for name in IDENTITIES:
                left, right, _, _ = held[name]
                self.assertEqual(value(left, olds, changes), value(right, olds, changes), name)

    def test_random_terms_like_the_sides_as_the_document_says(self):
        source = random.Random(18)
        right = 0
        for _ in range(250):
            held = random_sides(source)
            for name in IDENTITIES:
                forward = source.random() < 0.5
                term = held[name][0 if forward else 1]
                if source.random() < 0.5:
                    term = chance.replaced_parts(source, term, 0.1, lambda: source.choice(parts_in(held, source)))
                extra = source.choice((None, held[name][2 if forward else 3]))
                wanted = plain_other_side(name, forward, term, extra)
                self.assertEqual(other_side(name, forward, term, extra), wanted, (name, forward, term, extra))
                right += wanted is not None
        self.assertTrue(1000 < right < 5000)


def parts_in(held, source):
    """Terms that occur in the sides: with them in other places, a side is often nearly right."""
    left, _, _, _ = held[source.choice(sorted(held))]
    return [ZERO, A] + [at_position(left, position) for position in positions(left)]


class Positions(unittest.TestCase):
    def test_the_empty_position(self):
        for term, _ in KINDS:
            self.assertEqual(subterm(term, ()), term)

    def test_positions_of_all_kinds(self):
        for term, many in KINDS:
            for k in range(many):
                self.assertEqual(subterm(term, (k,)), term[len(term) - many + k])
            for k in (-1, -2, -3, -100, many, many + 1, 100):
                self.assertIsNone(subterm(term, (k,)), (term, k))
                self.assertIsNone(rewritten(term, ((k,), "zero", False, None)))

    def test_deep_positions(self):
        term = ("once", ("map", K, ("fold", K, "sum", FIRST, ("keep", FIRST, ("plus", A, join(B, ("neg", C)))))))
        self.assertEqual(subterm(term, (0, 0, 0, 0)), ("plus", A, join(B, ("neg", C))))
        self.assertEqual(subterm(term, (0, 0, 0, 0, 0)), A)
        self.assertEqual(subterm(term, (0, 0, 0, 0, 1)), join(B, ("neg", C)))
        self.assertEqual(subterm(term, (0, 0, 0, 0, 1, 0)), B)
        self.assertEqual(subterm(term, (0, 0, 0, 0, 1, 1)), ("neg", C))
        self.assertEqual(subterm(term, (0, 0, 0, 0, 1, 1, 0)), C)

    def test_positions_that_are_too_long(self):
        for term, many in KINDS:
            for k in (0, 1, -1):
                for position in positions(term):
                    if not parts_of(at_position(term, position)):
                        self.assertIsNone(subterm(term, position + (k,)))
                        self.assertIsNone(subterm(term, position + (k, 0)))
                        self.assertIsNone(rewritten(term, (position + (k,), "zero", False, None)))

    def test_a_wrong_index_in_the_middle(self):
        term = ("plus", ("neg", ("neg", A)), B)
        for position in ((0, 1, 0), (-2, 0, 0), (2, 0, 0), (0, -1, 0), (1, 0, 0), (0, 0, 0, 0)):
            self.assertIsNone(subterm(term, position))
            self.assertIsNone(rewritten(term, (position, "zero", False, None)))

    def test_what_stands_before_the_parts_has_no_position(self):
        term = join(A, B)
        self.assertIsNone(subterm(term, (-3,)))
        self.assertIsNone(subterm(term, (2,)))
        self.assertIsNone(subterm(("bag", [((1,), 1)]), (0,)))

    def test_all_positions_of_random_terms(self):
        source = random.Random(19)
        for _ in range(100):
            term = chance.term(source, 4)
            for position in positions(term):
                self.assertEqual(subterm(term, position), at_position(term, position))

    def test_deep_terms(self):
        term = A
        for _ in range(3000):
            term = ("neg", term)
        self.assertEqual(subterm(term, (0,) * 3000), A)
        self.assertIsNone(subterm(term, (0,) * 3001))
        found = rewritten(term, ((0,) * 3000, "zero", False, None))
        self.assertEqual(subterm(found, (0,) * 2999), ("neg", ("plus", A, ZERO)))
        self.assertTrue(paper_right((term, found, [((0,) * 3000, "zero", False, None)])))
        self.assertFalse(paper_right((term, found, [((0,) * 2999, "zero", False, None)])))


class Steps(unittest.TestCase):
    def test_all_identities_at_all_positions(self):
        source = random.Random(20)
        for _ in range(12):
            term = chance.term(source, 4)
            held = random_sides(source)
            for position, name in itertools.product(positions(term), IDENTITIES):
                left, right, forward, backward = held[name]
                here = with_subterm(term, position, left)
                there = with_subterm(term, position, right)
                self.assertEqual(rewritten(here, (position, name, True, forward)), there)
                self.assertEqual(rewritten(there, (position, name, False, backward)), here)

    def test_only_the_subterm_at_the_position_changes(self):
        term = ("plus", ("neg", ("neg", A)), ("neg", ("neg", A)))
        self.assertEqual(rewritten(term, ((0,), "twice", True, None)), ("plus", A, ("neg", ("neg", A))))
        self.assertEqual(rewritten(term, ((1,), "twice", True, None)), ("plus", ("neg", ("neg", A)), A))

    def test_wrong_steps(self):
        term = ("map", K, ("plus", A, ZERO))
        for step in (
            ((), "zero", True, None), ((0, 0), "zero", True, None), ((0, 2), "zero", False, None), ((1,), "swap", True, None),
            ((0,), "swaps", True, None), ((0,), "differ", True, None), ((0, 1), "cancel", False, None),
            ((0, 1), "leftzero", False, A), ((), "swap", True, None), ((0, 0), "new", True, None),
        ):
            self.assertIsNone(rewritten(term, step), step)

    def test_other_side_is_a_step_at_the_empty_position(self):
        source = random.Random(21)
        for _ in range(100):
            held = random_sides(source)
            name, forward = source.choice(IDENTITIES), source.random() < 0.5
            term = source.choice(held[source.choice(IDENTITIES)][:2])
            extra = held[name][2 if forward else 3]
            self.assertEqual(rewritten(term, ((), name, forward, extra)), other_side(name, forward, term, extra))

    def test_steps_there_and_back(self):
        source = random.Random(22)
        for _ in range(30):
            term = chance.term(source, 3)
            for position in positions(term):
                for name, extra in (("zero", None), ("twice", None)):
                    found = rewritten(term, (position, name, False, extra))
                    self.assertEqual(rewritten(found, (position, name, True, extra)), term)
                found = rewritten(term, (position, "differ", True, B))
                self.assertEqual(rewritten(found, (position, "differ", False, None)), term)


class Papers(unittest.TestCase):
    def test_the_example_of_the_interface(self):
        steps = [((), "swap", True, None), ((), "zero", True, None)]
        self.assertIs(paper_right((("plus", ("bag", []), ("old", "a")), ("old", "a"), steps)), True)

    def test_papers_without_steps(self):
        for (left, _), (right, _) in itertools.product(KINDS, repeat=2):
            self.assertIs(paper_right((left, copy.deepcopy(right), [])), left == right)

    def test_terms_that_differ_in_one_place(self):
        term = join(("map", K, FIXED), ("fold", K, "sum", FIRST, ("keep", ("+", FIRST, ("const", 1)), A)))
        others = [
            join(("map", L, FIXED), term[5]), join(("map", K, ZERO), term[5]), join(term[4], term[5], L),
            join(term[4], ("fold", K, "count", FIRST, term[5][4])), join(term[4], ("fold", K, "sum", SECOND, term[5][4])),
            join(("map", K, ("bag", [((1,), 2), (("x",), 1)])), term[5]),
            join(("map", K, ("bag", [((1,), 2), (("y",), -1)])), term[5]),
            join(("map", K, ("bag", [((1,), 2)])), term[5]), join(term[4], term[5], K, L, M + [FIRST]),
            join(term[4], ("fold", K, "sum", FIRST, ("keep", ("+", FIRST, ("const", "1")), A))),
            join(term[4], ("fold", K, "sum", FIRST, ("keep", ("-", FIRST, ("const", 1)), A))),
            join(term[4], ("fold", K, "sum", FIRST, ("keep", ("+", FIRST, ("const", 1)), B))),
        ]
        self.assertTrue(paper_right((term, copy.deepcopy(term), [])))
        for other in others:
            self.assertFalse(paper_right((term, other, [])), other)
            self.assertFalse(paper_right((other, term, [])), other)

    PAPER = (
        ("neg", ("plus", ("neg", A), ZERO)), A,
        [((0,), "zero", True, None), ((), "twice", True, None)],
    )

    def test_steps_are_taken_in_order(self):
        left, right, steps = self.PAPER
        self.assertTrue(paper_right(self.PAPER))
        self.assertFalse(paper_right((left, right, steps[::-1])))
        self.assertFalse(paper_right((left, right, steps[:1])))
        self.assertFalse(paper_right((left, right, steps[1:])))
        self.assertFalse(paper_right((left, right, [])))
        self.assertFalse(paper_right((left, right, steps + steps[:1])))

    def test_steps_that_are_turned_round_or_moved(self):
        left, right, steps = self.PAPER
        for k in range(len(steps)):
            position, name, forward, extra = steps[k]
            for other in ((position, name, not forward, extra), (position + (0,), name, forward, extra),
                          (position[:-1], name, forward, extra), ((1,), name, forward, extra),
                          (position, "negzero", forward, extra)):
                if other != steps[k]:
                    self.assertFalse(paper_right((left, right, steps[:k] + [other] + steps[k + 1:])), other)

    def test_the_way_back(self):
        left, right, steps = self.PAPER
        back = [(position, name, not forward, extra) for position, name, forward, extra in steps[::-1]]
        self.assertTrue(paper_right((right, left, back)))
        self.assertTrue(paper_right((left, left, steps + back)))
        self.assertFalse(paper_right((left, right, back)))
        self.assertFalse(paper_right((right, left, steps)))

    def test_the_last_term_must_be_the_right_one(self):
        left, right, steps = self.PAPER
        for other in (B, ("old", "b"), left, ("neg", A), ("plus", A, ZERO), ZERO):
            self.assertFalse(paper_right((left, other, steps)))
        self.assertFalse(paper_right((("neg", ("plus", ("neg", B), ZERO)), right, steps)))

    def test_a_wrong_step_is_not_passed_over(self):
        left, right, steps = self.PAPER
        for wrong in (((5,), "swap", True, None), ((), "nothing", True, None), ((), "cancel", True, None)):
            for k in range(len(steps) + 1):
                self.assertFalse(paper_right((left, right, steps[:k] + [wrong] + steps[k:])))

    def test_papers_of_derivatives_with_a_fault(self):
        source = random.Random(23)
        for _ in range(60):
            left, right, steps = derivative_paper(chance.term(source, 3, ("old",)))
            k = source.randrange(len(steps))
            position, name, forward, extra = steps[k]
            self.assertFalse(paper_right((left, right, steps[:k] + steps[k + 1:])))
            self.assertFalse(paper_right((left, ("neg", right), steps)))
            self.assertFalse(paper_right((("neg", left), right, steps)))
            moved = (position + (7,), name, forward, extra)
            self.assertFalse(paper_right((left, right, steps[:k] + [moved] + steps[k + 1:])))

    def test_accepted_papers_are_about_terms_that_denote_the_same(self):
        source = random.Random(24)
        for _ in range(60):
            left = term = chance.term(source, 3)
            steps = []
            for _ in range(6):
                step = self.random_step(source, term)
                found = rewritten(term, step)
                if found is not None and len(positions(found)) < 60:
                    term = found
                    steps.append(step)
            olds, changes = chance.bags(source), chance.bags(source)
            self.assertTrue(paper_right((left, term, steps)))
            self.assertEqual(value(left, olds, changes), value(term, olds, changes), (left, steps))

    def random_step(self, source, term):
        position = source.choice(positions(term))
        here = at_position(term, position)
        found = []
        for name, forward in itertools.product(IDENTITIES, (True, False)):
            extra = {"mapzero": K, "keepzero": FIRST, "leftzero": join(ZERO, A), "rightzero": join(A, ZERO),
                     "foldzero": ("fold", K, "count", FIRST, ZERO)}.get(name, A)
            if other_side(name, forward, here, extra) is not None:
                found.append((position, name, forward, extra))
        return source.choice(found)


class Sharing(unittest.TestCase):
    def test_nothing_is_changed_or_shared(self):
        source = random.Random(25)
        held = sides(FIXED, join(A, FIXED), ("map", K, A), "a", K, L, M, SECOND)
        for name in IDENTITIES:
            left, right, forward, backward = held[name]
            check_call(self, other_side, [name, True, left, forward])
            check_call(self, other_side, [name, False, right, backward])
            around = chance.term(source, 2)
            for position in positions(around)[-2:]:
                check_call(self, rewritten, [with_subterm(around, position, left), (position, name, True, forward)])
                check_call(self, rewritten, [with_subterm(around, position, right), (position, name, False, backward)])
            check_call(self, paper_right, [(left, right, [((), name, True, forward)])])
            check_call(self, paper_right, [(right, left, [((), name, False, backward)])])

    def test_subterms(self):
        source = random.Random(26)
        for _ in range(40):
            term = chance.term(source, 3)
            for position in positions(term):
                check_call(self, subterm, [term, position])

    def test_a_wrong_step_changes_nothing(self):
        for step in (((0,), "swap", True, None), ((), "cancel", True, None), ((3,), "zero", False, None)):
            check_call(self, rewritten, [("plus", FIXED, ("neg", A)), step])
            check_call(self, other_side, ["cancel", True, ("plus", FIXED, ("neg", A)), None])

    def test_a_part_that_comes_twice_has_two_lists(self):
        found = other_side("left", True, join(("plus", A, B), FIXED), None)
        marks = [id(held) for held in held_in(found)]
        self.assertEqual(len(marks), len(set(marks)))
        extra = ("map", K, FIXED)
        self.assertFalse(shared(other_side("differ", True, A, extra), extra))


if __name__ == "__main__":
    unittest.main()
