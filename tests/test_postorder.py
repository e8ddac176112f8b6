import copy
import itertools
import unittest

from deltaloom.postorder import in_postorder, same, worked_out


def parts_of(tree):
    return tree[1:]


class Postorder(unittest.TestCase):
    TREE = ("a", ("b", ("c",), ("d",)), ("e",), ("f", ("g",)))

    def test_parts_stand_before_what_they_are_parts_of(self):
        self.assertEqual([part[0] for part in in_postorder(self.TREE, parts_of)], list("cdbegfa"))
        self.assertEqual(in_postorder(("x",), parts_of), [("x",)])

    def test_results_are_worked_out_from_the_results_of_the_parts(self):
        def written(part, results):
            return part[0] + "".join(f"<{result}>" for result in results)
        self.assertEqual(worked_out(self.TREE, parts_of, written), "a<b<c><d>><e><f<g>>")
        self.assertEqual(worked_out(("x",), parts_of, written), "x")

    def test_a_tree_may_have_any_depth(self):
        tree = ("x",)
        for _ in range(20000):
            tree = ("y", tree)
        self.assertEqual(worked_out(tree, parts_of, lambda part, results: 1 + sum(results)), 20001)


class Same(unittest.TestCase):
    TREES = [
        (), [], 0, 1, -1, "", "0", "1", "a", (0,), [0], ("0",), ((),), ([],), [()], [[]], (0, 1), (1, 0), [0, 1], ("a", (1,)),
        ("a", [1]), ("a", (1,), 2), (("a",), 1, 2), ("ab",), ("a", "b"), (("bag", []),), (("bag", ()),), ("bag", [((1,), 2)]),
        ("bag", [((1,), -2)]), ("bag", [((1,), 2), ((3,), 2)]),
    ]

    def test_trees_are_the_same_if_they_are_equal(self):
        for first, second in itertools.product(self.TREES, repeat=2):
            self.assertIs(same(first, copy.deepcopy(second)), first == second, (first, second))

    def test_trees_may_have_any_depth(self):
        first, second, third = ("x",), ("x",), ("y",)
        for _ in range(20000):
            first, second, third = ("neg", first), ("neg", second), ("neg", third)
        self.assertTrue(same(first, second))
        self.assertFalse(same(first, third))
        self.assertFalse(same(first, ("neg", first)))


if __name__ == "__main__":
    unittest.main()
