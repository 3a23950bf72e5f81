"""is_tree: trees, trees with changed parts, and all other values."""

import random
import unittest

from samples import LETTERS, T, WalkCase, any_values, chain, drawn, full, nested, small_trees, trees
from treewalks.trees import is_tree

ODD_PARTS = [
    None, True, False, 0, 1, "", "a", "z", "A", "Z", "ab", "`", "{", " ", "\n", "1", "?", "-", (), [], {},
    (None, "a", None), (None, None, None), (None, "a"), [None, "a", None], ("a", "a", "a"), (None, "a", None, None),
    (None, ("a",), None), (False, "a", None), (None, "a", ()), {"a": None},
]


def nodes_in(value):
    """The number of nodes, or an infinite one if something in the value is not a node."""
    if value is None:
        return 0
    if type(value) is not tuple or len(value) != 3:
        return float("inf")
    left, label, right = value
    if type(label) is not str or label not in list(LETTERS):
        return float("inf")
    return nodes_in(left) + 1 + nodes_in(right)


def plainly_a_tree(value):
    return value is not None and nodes_in(value) <= 12


def spots(value, way=()):
    """The ways to all parts of nested tuples, the whole included."""
    found = [way]
    if isinstance(value, tuple):
        for at, item in enumerate(value):
            found += spots(item, way + (at,))
    return found


def changed(value, way, change):
    """The value in which the change makes another list of the items around the part at the way."""
    if len(way) == 1:
        return tuple(change(list(value), way[0]))
    items = list(value)
    items[way[0]] = changed(items[way[0]], way[1:], change)
    return tuple(items)


def with_part(part):
    return lambda items, at: items[:at] + [part] + items[at + 1:]


def without(items, at):
    return items[:at] + items[at + 1:]


def doubled(items, at):
    return items[:at + 1] + items[at:]


def as_list(items, at):
    return items[:at] + [list(items[at]) if isinstance(items[at], tuple) else [items[at]]] + items[at + 1:]


CHANGES = [with_part(part) for part in ODD_PARTS] + [without, doubled, as_list]
# Changes that often leave a tree.
GENTLE = [with_part(part) for part in (None, "q", (None, "a", None))]


class IsTree(WalkCase):
    def check(self, value):
        self.assertIs(self.asked(is_tree, value), plainly_a_tree(value), value)

    def test_trees(self):
        for tree in trees():
            self.assertIs(self.asked(is_tree, tree), True, tree)

    def test_every_letter(self):
        for letter in LETTERS:
            self.assertIs(is_tree((None, letter, None)), True)
            self.assertIs(is_tree((None, letter.upper(), None)), False)
            self.assertIs(is_tree((None, letter * 2, None)), False)
            self.assertIs(is_tree((None, (letter,), None)), False)

    def test_every_other_character_is_no_label(self):
        for code in list(range(32, 127)) + [10]:
            if chr(code) not in LETTERS:
                self.assertIs(is_tree((None, chr(code), None)), False, code)

    def test_any_values(self):
        for value in any_values():
            self.check(value)
        for value in any_values():
            for tree in ((value, "a", None), (None, "a", value), (None, value, None), [None, "a", value]):
                self.check(tree)

    def test_none_is_no_tree(self):
        self.assertIs(is_tree(None), False)

    def test_twelve_nodes_and_more(self):
        for sides in ("l", "r", "lr", "rrl"):
            self.assertIs(self.asked(is_tree, chain(12, sides)), True)
            self.assertIs(self.asked(is_tree, chain(13, sides)), False)
        for size in range(1, 32):
            self.assertIs(self.asked(is_tree, full(size)), size <= 12)
        source = random.Random(3)
        for size in range(10, 40):
            self.assertIs(is_tree(drawn(source, size)), size <= 12)

    def test_the_same_part_twice_counts_twice(self):
        six, five = chain(6, "l"), chain(5, "l")
        self.assertIs(is_tree((six, "a", six)), False)
        self.assertIs(is_tree((six, "a", five)), True)
        self.assertIs(is_tree((five, "a", six)), True)

    def test_deep_and_shared_values(self):
        self.assertIs(is_tree(nested(40, lambda value: (value, "a", value))), False)
        self.assertIs(is_tree(nested(40, lambda value: (value,))), False)
        self.assertIs(is_tree(nested(40, lambda value: [value, "a", None])), False)

    def test_one_changed_part(self):
        for tree in small_trees():
            for way in spots(tree)[1:]:
                for change in CHANGES:
                    value = changed(tree, way, change)
                    self.assertIs(is_tree(value), plainly_a_tree(value), value)

    def test_two_changed_parts(self):
        source = random.Random(5)
        found = {True: 0, False: 0}
        for tree in trees() * 20:
            value = tree
            for _ in range(2):
                ways = spots(value)[1:]
                if ways:
                    value = changed(value, source.choice(ways), source.choice(CHANGES + 8 * GENTLE))
            found[plainly_a_tree(value)] += 1
            self.check(value)
        self.assertGreater(min(found.values()), 100)

    def test_the_sample_tree(self):
        self.assertIs(is_tree(T), True)
        self.assertIs(is_tree(list(T)), False)
        self.assertIs(is_tree((T,)), False)


if __name__ == "__main__":
    unittest.main()
