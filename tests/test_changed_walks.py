"""The walks of mirrored trees and of trees with a replaced part, and how walks and paths agree."""

import random
import unittest

from samples import KINDS, SIGNS, WalkCase, drawn, labels_by_path, open_paths, trees
from treewalks.trees import depth_of, each_node, joined, mirrored, part_at, replaced, size_of
from treewalks.walks import each_step, path_at, place_of, walk, walks


def levels(tree):
    """The texts of the levels, cut out of the walk by the lengths of the paths."""
    found = [""] * depth_of(tree)
    for label, (path, same) in zip(walk(tree, "level"), each_step(tree, "level")):
        assert label == same
        found[len(path)] += label
    return found


class Mirrored(WalkCase):
    def test_walks_run_backward(self):
        for tree in trees():
            turned = walks(mirrored(tree), "first", "between", "last")
            self.assertEqual(turned, tuple(text[::-1] for text in walks(tree, "last", "between", "first")))

    def test_levels_are_turned(self):
        for tree in trees():
            expected = [text[::-1] for text in levels(tree)]
            self.assertEqual(levels(mirrored(tree)), expected)
            self.assertEqual(walk(mirrored(tree), "level"), "".join(expected))


class Replaced(WalkCase):
    def check(self, tree, path, part):
        new = replaced(tree, path, part)
        size = size_of(part_at(tree, path))
        for kind, sign in SIGNS.items():
            others = [key for key in labels_by_path(tree) if not key.startswith(path)]
            start = len([key for key in others if key + sign < path])
            old = walk(tree, kind)
            stretch = "" if part is None else walk(part, kind)
            self.assertEqual(walk(new, kind), old[:start] + stretch + old[start + size:])

    def test_just_the_stretch_is_replaced(self):
        source = random.Random(13)
        for tree in trees():
            for path in list(labels_by_path(tree)) + open_paths(tree):
                room = 12 - size_of(tree) + size_of(part_at(tree, path))
                for size in {0, min(1, room), room, source.randrange(room + 1)}:
                    if path or size:
                        self.check(tree, path, drawn(source, size))


class Agreement(WalkCase):
    def test_walks_and_paths(self):
        for tree in trees():
            for kind in KINDS:
                told = walk(tree, kind)
                self.assertEqual(len(told), size_of(tree))
                for place, (path, label) in enumerate(each_step(tree, kind)):
                    self.assertEqual((path_at(tree, kind, place), told[place]), (path, label))
                    self.assertEqual(place_of(tree, kind, path), place)
                    self.assertEqual(part_at(tree, path)[1], label)

    def test_the_first_walk_is_the_order_of_each_node(self):
        for tree in trees():
            self.assertEqual(list(each_step(tree, "first")), list(each_node(tree)))

    def test_walks_of_joined_trees(self):
        source = random.Random(17)
        for size in range(12):
            left, right = drawn(source, size), drawn(source, 11 - size)
            tree = joined("q", left, right)
            for kind, form in (("first", "{1}{0}{2}"), ("between", "{0}{1}{2}"), ("last", "{0}{2}{1}")):
                parts = ["" if part is None else walk(part, kind) for part in (left, right)]
                self.assertEqual(walk(tree, kind), form.format(parts[0], "q", parts[1]))


if __name__ == "__main__":
    unittest.main()
