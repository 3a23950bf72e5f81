"""The functions on trees other than is_tree."""

import random
import unittest

from samples import (
    LETTERS, T, WalkCase, any_values, chain, drawn, full, labels_by_path, open_paths, small_trees, tree_from, trees,
)
from treewalks.errors import NoPath, TooLarge, TooMany
from treewalks.trees import depth_of, each_node, joined, mirrored, part_at, replaced, size_of


def texts_that_lead_nowhere(tree):
    """Texts that are neither paths of nodes nor open paths."""
    found = [path + more for path in open_paths(tree) for more in ("l", "r", "lr")]
    for path in list(labels_by_path(tree)) + open_paths(tree):
        found += [path + more for more in ("x", "L", "R", " ", ".", "\n", "lx", "1")]
        found += [more + path for more in ("x", " ", "L")]
        if path:
            found += [path.upper(), "x" + path[1:], path[:-1] + "m"]
    return found + ["l" * 14, "r" * 14, "lr" * 1000]


def values_that_are_no_texts():
    return [value for value in any_values() if not isinstance(value, str)]


def put_at(tree, path, part):
    """The tree with the part at the path, by the dict of its labels."""
    labels = {key: label for key, label in labels_by_path(tree).items() if not key.startswith(path)}
    labels.update({path + key: label for key, label in labels_by_path(part).items()})
    return tree_from(labels)


class Sizes(WalkCase):
    def test_size_and_depth(self):
        for tree in trees():
            labels = labels_by_path(tree)
            self.assertEqual(self.asked(size_of, tree), len(labels))
            self.assertEqual(self.asked(depth_of, tree), 1 + max(len(path) for path in labels))

    def test_chains_and_full_trees(self):
        for size in range(1, 13):
            for sides in ("l", "r", "lr"):
                self.assertEqual((size_of(chain(size, sides)), depth_of(chain(size, sides))), (size, size))
            self.assertEqual((size_of(full(size)), depth_of(full(size))), (size, size.bit_length()))

    def test_none(self):
        self.assertEqual(repr((size_of(None), depth_of(None), mirrored(None))), "(0, 0, None)")


class Mirrors(WalkCase):
    def test_left_and_right_are_exchanged_everywhere(self):
        turn = str.maketrans("lr", "rl")
        for tree in trees():
            expected = {path.translate(turn): label for path, label in labels_by_path(tree).items()}
            self.assertEqual(labels_by_path(self.asked(mirrored, tree)), expected)
            self.assertEqual(mirrored(mirrored(tree)), tree)


class Parts(WalkCase):
    def test_parts_at_all_nodes(self):
        for tree in trees():
            labels = labels_by_path(tree)
            for path in labels:
                expected = {key[len(path):]: labels[key] for key in labels if key.startswith(path)}
                self.assertEqual(labels_by_path(self.asked(part_at, tree, path)), expected)

    def test_none_at_open_paths(self):
        for tree in trees():
            for path in open_paths(tree):
                self.assertIsNone(self.asked(part_at, tree, path))

    def test_texts_that_lead_nowhere(self):
        for tree in small_trees() + [T, chain(12, "lr"), full(12)]:
            for path in texts_that_lead_nowhere(tree):
                self.check_raises(NoPath, "value", path, part_at, tree, path)

    def test_values_that_are_no_texts(self):
        for tree in (T, (None, "a", None), chain(12, "r")):
            for value in values_that_are_no_texts():
                self.check_raises(NoPath, "value", value, part_at, tree, value)


class Replacements(WalkCase):
    def check(self, tree, path, part):
        expected = put_at(tree, path, part)
        if len(labels_by_path(expected)) > 12:
            with self.assertRaises(TooLarge) as caught:
                replaced(tree, path, part)
            self.assertEqual(type(caught.exception), TooLarge)
            self.assertEqual(repr(caught.exception.limit), "12")
            self.assertIsNone(caught.exception.__context__)
        else:
            self.assertEqual(self.asked(replaced, tree, path, part), expected)

    def test_every_path_and_some_parts(self):
        source = random.Random(7)
        for tree in trees():
            for path in list(labels_by_path(tree)) + open_paths(tree):
                for part in (None, (None, "z", None), tree, drawn(source, source.randrange(1, 13))):
                    self.check(tree, path, part)

    def test_the_very_limit(self):
        for size in range(1, 13):
            tree = chain(size, "rl")
            for path in list(labels_by_path(tree)) + open_paths(tree):
                left = len([key for key in labels_by_path(tree) if not key.startswith(path)])
                self.assertEqual(size_of(replaced(tree, path, full(12 - left))), 12)
                if left:
                    self.check(tree, path, full(13 - left))

    def test_none_at_the_root(self):
        for tree in trees():
            self.assertIsNone(self.asked(replaced, tree, "", None))

    def test_twelve_nodes_at_the_root(self):
        for tree in trees():
            self.assertEqual(replaced(tree, "", full(12)), full(12))

    def test_no_path(self):
        # With a tree of twelve nodes as the part, NoPath must come ahead of TooLarge.
        for tree in small_trees() + [T, chain(12, "lr")]:
            for part in (None, (None, "a", None), full(12)):
                for path in texts_that_lead_nowhere(tree)[:40]:
                    self.check_raises(NoPath, "value", path, replaced, tree, path, part)
        for part in (None, (None, "a", None), T, full(12)):
            for value in values_that_are_no_texts() + texts_that_lead_nowhere(T):
                self.check_raises(NoPath, "value", value, replaced, T, value, part)


class Nodes(WalkCase):
    def test_all_nodes_in_order(self):
        for tree in trees():
            labels = labels_by_path(tree)
            expected = [(path, labels[path]) for path in sorted(labels)]
            self.assertEqual(list(each_node(tree)), expected)
            self.assertEqual(list(each_node(tree)), expected)
            self.assertTrue(all(type(item) is tuple for item in each_node(tree)))

    def test_it_is_a_generator(self):
        nodes = each_node(T)
        self.assertIs(iter(nodes), nodes)
        self.assertEqual(next(nodes), ("", "a"))
        self.assertEqual(list(nodes), [("l", "b"), ("r", "c"), ("rl", "d")])
        self.assertEqual(list(nodes), [])

    def test_left_early(self):
        for tree in trees():
            whole = list(each_node(tree))
            for many in range(len(whole)):
                nodes = each_node(tree)
                self.assertEqual([next(nodes) for _ in range(many)], whole[:many])
                nodes.close()
            self.assertEqual(list(each_node(tree)), whole)

    def test_two_in_turn(self):
        for tree in trees():
            whole = list(each_node(tree))
            self.assertEqual(list(zip(each_node(tree), each_node(tree))), list(zip(whole, whole)))


class Joins(WalkCase):
    def check_too_large(self, *args):
        with self.assertRaises(TooLarge) as caught:
            joined(*args)
        self.assertEqual(type(caught.exception), TooLarge)
        self.assertEqual(repr(caught.exception.limit), "12")
        self.assertIsNone(caught.exception.__context__)

    def test_no_trees(self):
        for letter in LETTERS:
            self.assertEqual(self.asked(joined, letter), (None, letter, None))

    def test_one_tree(self):
        self.assertEqual(self.asked(joined, "a", None), (None, "a", None))
        for tree in trees():
            if len(labels_by_path(tree)) < 12:
                self.assertEqual(self.asked(joined, "q", tree), (tree, "q", None))
            else:
                self.check_too_large("q", tree)

    def test_two_trees(self):
        self.assertEqual(self.asked(joined, "a", None, None), (None, "a", None))
        for tree in trees():
            for other in [None, (None, "z", None), T, tree, full(6), full(11), full(12)]:
                size = len(labels_by_path(tree)) + len(labels_by_path(other))
                for left, right in ((tree, other), (other, tree)):
                    if size < 12:
                        self.assertEqual(self.asked(joined, "q", left, right), (left, "q", right))
                    else:
                        self.check_too_large("q", left, right)

    def test_three_trees(self):
        for args in ((None, None, None), (T, None, T), (None, None, T), (full(12), full(12), full(12)), (T,) * 7):
            with self.assertRaises(TooMany) as caught:
                joined("a", *args)
            self.assertEqual(type(caught.exception), TooMany)
            self.assertEqual(repr(caught.exception.limit), "2")
            self.assertIsNone(caught.exception.__context__)


if __name__ == "__main__":
    unittest.main()
