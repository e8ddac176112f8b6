import random
import unittest

import chance
from deltaloom.bags import minus, plus
from deltaloom.branches import Tree
from deltaloom.errors import LoomError, NameTaken, NameUnknown
from sharing import check_call, spoil

ONE, TWO, THREE = [((1,), 1)], [((2,), 2)], [(("x",), -3)]


class TreeCase(unittest.TestCase):
    def check(self, tree, branch, **bags):
        """The inputs of a branch; those that are not named are empty."""
        found = tree.inputs(branch)
        self.assertEqual(found, {name: bags.get(name, []) for name in found})
        self.assertTrue(set(bags) <= set(found))

    def check_error(self, error, name, method, *arguments):
        with self.assertRaises(LoomError) as caught:
            method(*arguments)
        self.assertIs(caught.exception.__class__, error)
        self.assertEqual(caught.exception.name, name)


class Trunk(TreeCase):
    def test_a_new_tree(self):
        tree = Tree(["edge", "a"])
        self.assertEqual(tree.inputs("trunk"), {"edge": [], "a": []})
        self.assertEqual(list(tree.inputs("trunk")), ["edge", "a"])
        self.assertEqual(Tree([]).inputs("trunk"), {})

    def test_feeding_the_trunk(self):
        tree = Tree(["edge", "a"])
        tree.feed("trunk", "a", [((1,), 1), ((2,), -1)])
        self.check(tree, "trunk", a=[((1,), 1), ((2,), -1)])
        tree.feed("trunk", "a", [((2,), 1)])
        tree.feed("trunk", "edge", TWO)
        self.check(tree, "trunk", a=ONE, edge=TWO)
        tree.feed("trunk", "a", [])
        self.check(tree, "trunk", a=ONE, edge=TWO)

    def test_the_change_of_the_trunk_is_its_bag(self):
        tree = Tree(["a", "b"])
        self.assertEqual(tree.change("trunk", "a"), [])
        tree.feed("trunk", "a", ONE)
        tree.fork("trunk", "side")
        tree.feed("trunk", "a", TWO)
        tree.feed("side", "b", THREE)
        tree.merge("side")
        self.assertEqual(tree.change("trunk", "a"), plus(ONE, TWO))
        self.assertEqual(tree.change("trunk", "b"), THREE)


class Forks(TreeCase):
    def test_a_fork_begins_with_the_bags_of_its_parent(self):
        tree = Tree(["a", "b"])
        tree.feed("trunk", "a", ONE)
        tree.fork("trunk", "side")
        self.check(tree, "side", a=ONE)
        self.assertEqual((tree.change("side", "a"), tree.change("side", "b")), ([], []))

    def test_branches_are_fed_separately(self):
        tree = Tree(["a"])
        tree.feed("trunk", "a", ONE)
        tree.fork("trunk", "side")
        tree.feed("side", "a", TWO)
        self.check(tree, "trunk", a=ONE)
        self.check(tree, "side", a=plus(ONE, TWO))
        tree.feed("trunk", "a", THREE)
        self.check(tree, "trunk", a=plus(ONE, THREE))
        self.check(tree, "side", a=plus(ONE, TWO))
        self.assertEqual(tree.change("side", "a"), TWO)

    def test_a_change_that_takes_something_away(self):
        tree = Tree(["a"])
        tree.feed("trunk", "a", ONE)
        tree.fork("trunk", "side")
        tree.feed("side", "a", minus([], ONE))
        self.check(tree, "side")
        self.assertEqual(tree.change("side", "a"), [((1,), -1)])
        tree.feed("trunk", "a", ONE)
        tree.merge("side")
        self.check(tree, "trunk", a=ONE)

    def test_forks_of_forks(self):
        tree = Tree(["a"])
        tree.fork("trunk", "one")
        tree.feed("one", "a", ONE)
        tree.fork("one", "two")
        tree.feed("two", "a", TWO)
        tree.fork("two", "three")
        tree.feed("three", "a", THREE)
        self.check(tree, "trunk")
        self.check(tree, "one", a=ONE)
        self.check(tree, "two", a=plus(ONE, TWO))
        self.check(tree, "three", a=plus(plus(ONE, TWO), THREE))
        self.assertEqual([tree.change(name, "a") for name in ("one", "two", "three")], [ONE, TWO, THREE])
        tree.merge("three")
        self.check(tree, "two", a=plus(plus(ONE, TWO), THREE))
        self.check(tree, "one", a=ONE)
        self.assertEqual(tree.change("two", "a"), plus(TWO, THREE))
        tree.merge("two")
        tree.merge("one")
        self.check(tree, "trunk", a=plus(plus(ONE, TWO), THREE))

    def test_a_middle_branch_is_merged_before_the_one_above_it(self):
        tree = Tree(["a"])
        tree.fork("trunk", "one")
        tree.feed("one", "a", ONE)
        tree.fork("one", "two")
        tree.feed("two", "a", TWO)
        tree.feed("trunk", "a", THREE)
        tree.merge("one")
        self.check(tree, "one", a=plus(ONE, THREE))
        self.assertEqual(tree.change("two", "a"), TWO)
        tree.merge("two")
        self.check(tree, "one", a=plus(plus(ONE, TWO), THREE))
        self.check(tree, "two", a=plus(plus(ONE, TWO), THREE))
        self.assertEqual(tree.change("one", "a"), TWO)
        tree.merge("one")
        self.check(tree, "trunk", a=plus(plus(ONE, TWO), THREE))


class Merges(TreeCase):
    def test_the_parent_gets_the_difference_and_the_branch_the_parents_bags(self):
        tree = Tree(["a", "b"])
        tree.feed("trunk", "a", ONE)
        tree.fork("trunk", "side")
        tree.feed("side", "a", TWO)
        tree.feed("trunk", "b", THREE)
        tree.merge("side")
        self.check(tree, "trunk", a=plus(ONE, TWO), b=THREE)
        self.check(tree, "side", a=plus(ONE, TWO), b=THREE)
        self.assertEqual((tree.change("side", "a"), tree.change("side", "b")), ([], []))

    def test_merging_twice_adds_nothing_twice(self):
        tree = Tree(["a"])
        tree.fork("trunk", "side")
        tree.feed("side", "a", ONE)
        tree.merge("side")
        tree.merge("side")
        self.check(tree, "trunk", a=ONE)
        self.check(tree, "side", a=ONE)

    def test_a_branch_goes_on_after_a_merge(self):
        tree = Tree(["a"])
        tree.fork("trunk", "side")
        tree.feed("side", "a", ONE)
        tree.merge("side")
        tree.feed("trunk", "a", THREE)
        tree.feed("side", "a", TWO)
        self.check(tree, "side", a=plus(ONE, TWO))
        self.assertEqual(tree.change("side", "a"), TWO)
        tree.merge("side")
        self.check(tree, "trunk", a=plus(plus(ONE, TWO), THREE))
        self.check(tree, "side", a=plus(plus(ONE, TWO), THREE))

    def test_merging_brings_the_parents_changes_to_a_branch_that_has_none(self):
        tree = Tree(["a"])
        tree.fork("trunk", "side")
        tree.feed("trunk", "a", ONE)
        tree.merge("side")
        self.check(tree, "trunk", a=ONE)
        self.check(tree, "side", a=ONE)
        self.assertEqual(tree.change("side", "a"), [])

    def test_both_orders(self):
        for order in (("one", "two"), ("two", "one")):
            tree = Tree(["a", "b"])
            tree.feed("trunk", "a", ONE)
            tree.fork("trunk", "one")
            tree.fork("trunk", "two")
            tree.feed("one", "a", TWO)
            tree.feed("two", "a", TWO)
            tree.feed("two", "b", THREE)
            tree.merge(order[0])
            tree.feed("trunk", "b", ONE)
            tree.merge(order[1])
            self.check(tree, "trunk", a=plus(plus(ONE, TWO), TWO), b=plus(ONE, THREE))
            self.check(tree, order[1], a=plus(plus(ONE, TWO), TWO), b=plus(ONE, THREE))

    def test_a_merge_concerns_no_other_branch(self):
        tree = Tree(["a"])
        tree.fork("trunk", "one")
        tree.fork("trunk", "two")
        tree.fork("one", "three")
        tree.feed("one", "a", ONE)
        tree.merge("one")
        self.check(tree, "two")
        self.check(tree, "three")
        self.assertEqual(tree.change("three", "a"), [])

    def test_any_order_gives_the_sum_of_all_that_was_fed(self):
        source = random.Random(50)
        for _ in range(80):
            tree, parents, total = Tree(["a", "b"]), {"trunk": None}, {"a": [], "b": []}
            for k in range(40):
                branch = source.choice(sorted(parents))
                action = source.random()
                if action < 0.2:
                    tree.fork(branch, f"b{k}")
                    parents[f"b{k}"] = branch
                elif action < 0.7:
                    name, change = source.choice("ab"), chance.bag(source, 2)
                    tree.feed(branch, name, change)
                    total[name] = plus(total[name], change)
                elif branch != "trunk":
                    tree.merge(branch)
            # The branches were made after their parents, so each one is merged before its parent.
            for branch in reversed(list(parents)):
                if branch != "trunk":
                    tree.merge(branch)
            self.assertEqual(tree.inputs("trunk"), total)

    def test_a_plain_model(self):
        """The same story told with the sums of what was fed, without any difference of bags."""
        source = random.Random(51)
        for _ in range(60):
            tree, parents = Tree(["a"]), {"trunk": None}
            own, start = {"trunk": []}, {"trunk": []}
            for k in range(30):
                branch = source.choice(sorted(parents))
                action = source.random()
                if action < 0.25:
                    tree.fork(branch, f"b{k}")
                    parents[f"b{k}"], start[f"b{k}"], own[f"b{k}"] = branch, plus(start[branch], own[branch]), []
                elif action < 0.65:
                    change = chance.bag(source, 2)
                    tree.feed(branch, "a", change)
                    own[branch] = plus(own[branch], change)
                elif branch != "trunk":
                    tree.merge(branch)
                    above = parents[branch]
                    own[above] = plus(own[above], own[branch])
                    start[branch], own[branch] = plus(start[above], own[above]), []
                for name in parents:
                    self.assertEqual(tree.inputs(name), {"a": plus(start[name], own[name])})
                    self.assertEqual(tree.change(name, "a"), own[name])


class Names(TreeCase):
    def tree(self):
        tree = Tree(["a", "b"])
        tree.fork("trunk", "side")
        tree.feed("trunk", "a", ONE)
        tree.feed("side", "b", TWO)
        return tree

    def check_same(self, tree):
        self.check(tree, "trunk", a=ONE)
        self.check(tree, "side", b=TWO)
        self.assertEqual((tree.change("side", "a"), tree.change("side", "b")), ([], TWO))

    def test_unknown_branches(self):
        tree = self.tree()
        for name in ("", "a", "none", "Trunk"):
            self.check_error(NameUnknown, name, tree.inputs, name)
            self.check_error(NameUnknown, name, tree.feed, name, "a", ONE)
            self.check_error(NameUnknown, name, tree.fork, name, "new")
            self.check_error(NameUnknown, name, tree.change, name, "a")
            self.check_error(NameUnknown, name, tree.merge, name)
            self.check_error(NameUnknown, "new", tree.inputs, "new")
        self.check_same(tree)

    def test_unknown_inputs(self):
        tree = self.tree()
        for branch in ("trunk", "side"):
            for name in ("", "c", "trunk", "side"):
                self.check_error(NameUnknown, name, tree.feed, branch, name, ONE)
                self.check_error(NameUnknown, name, tree.change, branch, name)
        self.check_same(tree)

    def test_a_branch_before_an_input(self):
        tree = self.tree()
        self.check_error(NameUnknown, "none", tree.feed, "none", "c", ONE)
        self.check_error(NameUnknown, "none", tree.change, "none", "c")
        self.check_same(tree)

    def test_taken_names(self):
        tree = self.tree()
        for parent in ("trunk", "side"):
            for name in ("trunk", "side"):
                self.check_error(NameTaken, name, tree.fork, parent, name)
        self.check_same(tree)

    def test_unknown_before_taken(self):
        tree = self.tree()
        for name in ("trunk", "side", "none"):
            self.check_error(NameUnknown, "none", tree.fork, "none", name)
        self.check_same(tree)

    def test_merging_the_trunk(self):
        tree = self.tree()
        self.check_error(NameUnknown, "trunk", tree.merge, "trunk")
        self.check_same(tree)

    def test_a_branch_may_have_the_name_of_an_input(self):
        tree = Tree(["a", "trunk"])
        tree.fork("trunk", "a")
        tree.feed("a", "a", ONE)
        tree.feed("a", "trunk", TWO)
        tree.merge("a")
        self.check(tree, "trunk", a=ONE, trunk=TWO)


class Sharing(TreeCase):
    def test_a_change_that_was_fed_may_be_changed_afterwards(self):
        tree, change = Tree(["a"]), [((1,), 1)]
        tree.fork("trunk", "side")
        tree.feed("trunk", "a", change)
        tree.feed("side", "a", change)
        self.assertEqual(change, ONE)
        change.clear()
        self.check(tree, "trunk", a=ONE)
        self.check(tree, "side", a=ONE)
        tree.merge("side")
        self.check(tree, "trunk", a=[((1,), 2)])

    def test_what_is_returned_may_be_changed_afterwards(self):
        tree = Tree(["a", "b"])
        tree.feed("trunk", "a", ONE)
        tree.fork("trunk", "side")
        for _ in range(2):
            for branch in ("trunk", "side"):
                spoil(tree.inputs(branch))
                tree.inputs(branch)["c"] = []
                for name in ("a", "b"):
                    tree.change(branch, name).append(1)
                    check_call(self, tree.change, [branch, name])
                check_call(self, tree.inputs, [branch])
                self.check(tree, branch, a=ONE)
            tree.merge("side")

    def test_the_list_of_names_may_be_changed_afterwards(self):
        names = ["a", "b"]
        tree = Tree(names)
        self.assertEqual(names, ["a", "b"])
        names.clear()
        self.assertEqual(tree.inputs("trunk"), {"a": [], "b": []})
        tree.feed("trunk", "a", ONE)
        self.assertEqual(names, [])

    def test_two_trees_have_nothing_in_common(self):
        names = ["a"]
        one, other = Tree(names), Tree(names)
        one.feed("trunk", "a", ONE)
        one.fork("trunk", "side")
        self.check(other, "trunk")
        other.fork("trunk", "side")
        self.check(other, "side")


if __name__ == "__main__":
    unittest.main()
