"""The walks of trees, and the places and paths in them."""

import itertools
import unittest

from samples import (
    KINDS, T, WalkCase, any_values, chain, full, labels_by_path, not_kinds, open_paths, paths_in_order, plain_walk,
    small_trees, trees,
)
from treewalks.errors import NoKind, NoPath, NoPlace
from treewalks.walks import each_step, path_at, place_of, walk, walks


def first_step(tree, kind):
    return next(each_step(tree, kind))


class Walks(WalkCase):
    def test_every_kind(self):
        for tree in trees():
            for kind in KINDS:
                self.assertEqual(self.asked(walk, tree, kind), plain_walk(tree, kind))

    def test_chains(self):
        self.assertEqual(walks(chain(4, "l"), *KINDS), ("abcd", "dcba", "dcba", "abcd"))
        self.assertEqual(walks(chain(4, "r"), *KINDS), ("abcd", "abcd", "dcba", "abcd"))
        self.assertEqual(walks(chain(5, "lr"), *KINDS), ("abcde", "bdeca", "edcba", "abcde"))
        self.assertEqual(walks(full(7), *KINDS), ("abdecfg", "dbeafcg", "debfgca", "abcdefg"))

    def test_several_kinds_at_once(self):
        for many in range(6):
            for kinds in itertools.product(KINDS, repeat=min(many, 3)):
                kinds = kinds + ("level", "first")[:many - len(kinds)]
                for tree in (T, (None, "a", None), chain(12, "rl"), full(12)):
                    expected = tuple(plain_walk(tree, kind) for kind in kinds)
                    self.assertEqual(repr(self.asked(walks, tree, *kinds)), repr(expected))

    def test_walks_of_all_trees(self):
        for tree in trees():
            self.assertEqual(self.asked(walks, tree), ())
            expected = tuple(plain_walk(tree, kind) for kind in KINDS)
            self.assertEqual(self.asked(walks, tree, *KINDS), expected)

    def test_walk_of_no_kind(self):
        for tree in (T, (None, "a", None), full(12)):
            for value in not_kinds():
                self.check_raises(NoKind, "value", value, walk, tree, value)

    def test_walks_of_no_kind(self):
        # The other value stands behind the first one and must not be the one that is told.
        for value, other in zip(not_kinds(), reversed(not_kinds())):
            self.check_raises(NoKind, "value", value, walks, T, value)
            self.check_raises(NoKind, "value", value, walks, T, value, other)
            self.check_raises(NoKind, "value", value, walks, T, "first", value, "last", other)
            self.check_raises(NoKind, "value", value, walks, T, "level", "last", "between", "first", value)


class Places(WalkCase):
    def test_all_places(self):
        for tree in trees():
            for kind in KINDS:
                for place, path in enumerate(paths_in_order(tree, kind)):
                    self.assertEqual(repr(self.asked(place_of, tree, kind, path)), repr(place))
                    self.assertEqual(repr(self.asked(path_at, tree, kind, place)), repr(path))

    def test_no_kind_comes_first(self):
        for value in not_kinds():
            for path in ("", "l", "lll", 5, None, value):
                self.check_raises(NoKind, "value", value, place_of, T, value, path)
            for place in (0, 3, 4, -1, True, None, "0", value):
                self.check_raises(NoKind, "value", value, path_at, T, value, place)

    def test_paths_of_no_node(self):
        for tree in small_trees() + [T, chain(12, "lr"), full(12)]:
            for path in open_paths(tree):
                for kind in KINDS:
                    for wrong in (path, path + "l", path + "r", path + "x", "x" + path, path.upper(), path + " "):
                        self.check_raises(NoPath, "value", wrong, place_of, tree, kind, wrong)

    def test_other_values_are_no_paths(self):
        for tree in (T, (None, "a", None), full(12)):
            labels = labels_by_path(tree)
            for value in any_values():
                if not (isinstance(value, str) and value in labels):
                    for kind in KINDS:
                        self.check_raises(NoPath, "value", value, place_of, tree, kind, value)

    def test_places_beyond_both_ends(self):
        for tree in trees():
            size = len(labels_by_path(tree))
            for kind in KINDS:
                for place in (-1, -size, size, size + 1, 10 ** 59, -(10 ** 59)):
                    self.check_raises(NoPlace, "value", place, path_at, tree, kind, place)

    def test_other_values_are_no_places(self):
        for tree in (T, (None, "a", None), full(12)):
            size = len(labels_by_path(tree))
            for value in any_values():
                if not (type(value) is int and 0 <= value < size):
                    for kind in KINDS:
                        self.check_raises(NoPlace, "value", value, path_at, tree, kind, value)


class Steps(WalkCase):
    def test_all_steps_in_order(self):
        for tree in trees():
            labels = labels_by_path(tree)
            for kind in KINDS:
                expected = [(path, labels[path]) for path in paths_in_order(tree, kind)]
                self.assertEqual(repr(list(each_step(tree, kind))), repr(expected))
                self.assertEqual(repr(list(each_step(tree, kind))), repr(expected))

    def test_it_is_a_generator(self):
        steps = each_step(T, "between")
        self.assertIs(iter(steps), steps)
        self.assertEqual(next(steps), ("l", "b"))
        self.assertEqual(list(steps), [("", "a"), ("rl", "d"), ("r", "c")])
        self.assertEqual(list(steps), [])

    def test_left_early(self):
        for tree in (T, (None, "a", None), chain(12, "lr"), full(12)):
            for kind in KINDS:
                whole = list(each_step(tree, kind))
                for many in range(len(whole)):
                    steps = each_step(tree, kind)
                    self.assertEqual([next(steps) for _ in range(many)], whole[:many])
                    steps.close()
                self.assertEqual(list(each_step(tree, kind)), whole)

    def test_two_in_turn(self):
        for tree in (T, chain(12, "lr"), full(12)):
            for kind in KINDS:
                for other in KINDS:
                    one, two = list(each_step(tree, kind)), list(each_step(tree, other))
                    both = list(zip(each_step(tree, kind), each_step(tree, other)))
                    self.assertEqual(both, list(zip(one, two)))

    def test_one_ahead_of_the_other(self):
        ahead, behind = each_step(T, "last"), each_step(T, "last")
        told = [next(ahead), next(ahead), next(behind), next(ahead), next(behind)]
        self.assertEqual(told, [("l", "b"), ("rl", "d"), ("l", "b"), ("r", "c"), ("rl", "d")])
        self.assertEqual((list(behind), list(ahead)), ([("r", "c"), ("", "a")], [("", "a")]))

    def test_no_kind(self):
        for tree in (T, (None, "a", None)):
            for value in not_kinds():
                self.check_raises(NoKind, "value", value, first_step, tree, value)


if __name__ == "__main__":
    unittest.main()
