import unittest

from deltaloom.postorder import in_postorder, worked_out


def parts_of(tree):
    return tree[1:]


class Postorder(unittest.TestCase):
    TREE = ("a", ("b", ("c",), ("d",)), ("e",), ("f", ("g",)))

    def test_parts_stand_before_what_they_are_parts_of(self):
        self.assertEqual([part[0] for part in in_postorder(self.TREE, parts_of)], list("cdbegfa"))
        self.assertEqual(in_postorder(("x",), parts_of), [("x",)])

    def test_results_are_worked_out_from_the_results_of_the_parts(self):
        def written(part, results):
            return part[0] + "".join(f"<{result}>" for result in results)
        self.assertEqual(worked_out(self.TREE, parts_of, written), "a<b<c><d>><e><f<g>>")
        self.assertEqual(worked_out(("x",), parts_of, written), "x")

    def test_a_tree_may_have_any_depth(self):
        tree = ("x",)
        for _ in range(20000):
            tree = ("y", tree)
        self.assertEqual(worked_out(tree, parts_of, lambda part, results: 1 + sum(results)), 20001)


if __name__ == "__main__":
    unittest.main()
