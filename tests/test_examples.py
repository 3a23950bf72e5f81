"""The examples of sections 1 and 2 of the document."""

import unittest

from samples import WalkCase
from treewalks.errors import NoPath
from treewalks.trees import depth_of, each_node, is_tree, joined, mirrored, part_at, replaced, size_of
from treewalks.walks import each_step, path_at, place_of, walk, walks

T = ((None, 'b', None), 'a', ((None, 'd', None), 'c', None))


class TreeExamples(WalkCase):
    def test_is_tree(self):
        told = [is_tree(T), is_tree(None), is_tree((None, 'A', None)), is_tree([None, 'a', None])]
        self.assertEqual(repr(told), "[True, False, False, False]")

    def test_size_of_and_depth_of(self):
        self.assertEqual(repr([size_of(T), depth_of(T), size_of(None)]), "[4, 3, 0]")

    def test_part_at(self):
        told = [part_at(T, 'l'), part_at(T, 'rl'), part_at(T, 'lr')]
        self.assertEqual(repr(told), "[(None, 'b', None), (None, 'd', None), None]")

    def test_part_at_no_path(self):
        path = 'lrl'
        self.check_raises(NoPath, "value", path, part_at, T, path)

    def test_replaced(self):
        told = replaced(T, 'r', (None, 'e', None))
        self.assertEqual(repr(told), "((None, 'b', None), 'a', (None, 'e', None))")

    def test_mirrored(self):
        self.assertEqual(repr(mirrored(T)), "((None, 'c', (None, 'd', None)), 'a', (None, 'b', None))")

    def test_each_node(self):
        self.assertEqual(repr(list(each_node(T))), "[('', 'a'), ('l', 'b'), ('r', 'c'), ('rl', 'd')]")

    def test_joined(self):
        told = [joined('a'), joined('a', (None, 'b', None)), joined('a', None, (None, 'b', None))]
        expected = "[(None, 'a', None), ((None, 'b', None), 'a', None), (None, 'a', (None, 'b', None))]"
        self.assertEqual(repr(told), expected)


class WalkExamples(WalkCase):
    def test_walk(self):
        told = [walk(T, 'first'), walk(T, 'between'), walk(T, 'last'), walk(T, 'level')]
        self.assertEqual(repr(told), "['abcd', 'badc', 'bdca', 'abcd']")

    def test_walks(self):
        self.assertEqual(repr([walks(T, 'last', 'first'), walks(T)]), "[('bdca', 'abcd'), ()]")

    def test_place_of(self):
        self.assertEqual(repr([place_of(T, 'between', 'rl'), place_of(T, 'last', '')]), "[2, 3]")

    def test_path_at(self):
        self.assertEqual(repr([path_at(T, 'last', 1), path_at(T, 'level', 2)]), "['rl', 'r']")

    def test_each_step(self):
        self.assertEqual(repr(list(each_step(T, 'last'))), "[('l', 'b'), ('rl', 'd'), ('r', 'c'), ('', 'a')]")


if __name__ == "__main__":
    unittest.main()
