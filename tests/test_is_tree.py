"""is_tree: trees, trees with changed parts, and all other values."""

import random
import unittest

from samples import (
    CHANGES, GENTLE, LETTERS, T, WalkCase, any_values, chain, changed, changed_often, drawn, full, nested,
    plainly_a_tree, small_trees, spots, trees,
)
from treewalks.trees import is_tree


class IsTree(WalkCase):
    def check(self, value):
        self.assertIs(self.asked(is_tree, value), plainly_a_tree(value), value)

    def test_trees(self):
        for tree in trees():
            self.assertIs(self.asked(is_tree, tree), True, tree)

    def test_every_letter(self):
        for letter in LETTERS:
            self.assertIs(is_tree((None, letter, None)), True)
            self.assertIs(is_tree((None, letter.upper(), None)), False)
            self.assertIs(is_tree((None, letter * 2, None)), False)
            self.assertIs(is_tree((None, (letter,), None)), False)

    def test_every_other_character_is_no_label(self):
        for code in list(range(32, 127)) + [10]:
            if chr(code) not in LETTERS:
                self.assertIs(is_tree((None, chr(code), None)), False, code)

    def test_any_values(self):
        for value in any_values():
            self.check(value)
        for value in any_values():
            for tree in ((value, "a", None), (None, "a", value), (None, value, None), [None, "a", value]):
                self.check(tree)

    def test_none_is_no_tree(self):
        self.assertIs(is_tree(None), False)

    def test_twelve_nodes_and_more(self):
        for sides in ("l", "r", "lr", "rrl"):
            self.assertIs(self.asked(is_tree, chain(12, sides)), True)
            self.assertIs(self.asked(is_tree, chain(13, sides)), False)
        for size in range(1, 32):
            self.assertIs(self.asked(is_tree, full(size)), size <= 12)
        source = random.Random(3)
        for size in range(10, 40):
            self.assertIs(is_tree(drawn(source, size)), size <= 12)

    def test_the_same_part_twice_counts_twice(self):
        six, five = chain(6, "l"), chain(5, "l")
        self.assertIs(is_tree((six, "a", six)), False)
        self.assertIs(is_tree((six, "a", five)), True)
        self.assertIs(is_tree((five, "a", six)), True)

    def test_deep_and_shared_values(self):
        self.assertIs(is_tree(nested(40, lambda value: (value, "a", value))), False)
        self.assertIs(is_tree(nested(40, lambda value: (value,))), False)
        self.assertIs(is_tree(nested(40, lambda value: [value, "a", None])), False)

    def test_one_changed_part(self):
        for tree in small_trees():
            for way in spots(tree)[1:]:
                for change in CHANGES:
                    value = changed(tree, way, change)
                    self.assertIs(is_tree(value), plainly_a_tree(value), value)

    def test_two_changed_parts(self):
        source = random.Random(5)
        found = {True: 0, False: 0}
        for tree in trees() * 20:
            value = changed_often(source, tree, CHANGES + 8 * GENTLE, 2)
            found[plainly_a_tree(value)] += 1
            self.check(value)
        self.assertGreater(min(found.values()), 100)

    def test_the_sample_tree(self):
        self.assertIs(is_tree(T), True)
        self.assertIs(is_tree(list(T)), False)
        self.assertIs(is_tree((T,)), False)


if __name__ == "__main__":
    unittest.main()
