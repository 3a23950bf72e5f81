"""Refutations and verdicts: those that are found, and those that anybody made."""

import functools
import itertools
import random
import unittest

from samples import (
    CHANGES, ROW_KINDS, WalkCase, any_values, changed, changed_often, drawn, drawn_rows, labels_by_path, large_rows,
    plain_count, plain_trees, plainly_a_tree, plainly_fits, rows_of_tree, size_of_rows, small_rows, trees, with_part,
)
from treewalks.fits import count_trees, find_refutation, refutation_holds, tree_at, verdict, verdict_holds

ODD_STRETCHES = [
    (1, 0, 0, 0), (0, 0, 0, 0), (1, 1, 1, 1), (2, 0, 0, 0), (1, 0, 0, -1), (-1, 0, 0, 0), (1, 0, 0), (1, 0, 0, 0, 0),
    (True, 0, 0, 0), (1, False, 0, 0), (1, 0, 0, False), [1, 0, 0, 0], (), "1000", None, 1, (12, 0, 0, 0),
    (13, 0, 0, 0), (1, 12, 0, 0), (1, 0, 12, 0), (1, 0, 0, 11), (1, 0, 0, 12), ("1", 0, 0, 0), (1, None, 0, 0),
    (10 ** 59, 0, 0, 0),
    (1, 0, 10 ** 59, 0), (1, (0,), 0, 0), (1, [], 0, 0), {}, {"a": 1},
]


def stretches(size):
    """All stretches of rows of this size with at least one node."""
    return [
        (many, *places)
        for many in range(1, size + 1)
        for places in itertools.product(range(size - many + 1), repeat=3)
    ]


def plain_splits(stretch, rows):
    """The two parts of each allowed split, just as the document says it."""
    m, i, j, k = stretch
    found = []
    for s in range(m):
        places = {"first": i, "between": j + s, "last": k + m - 1}
        letters = {rows[name][places[name]] for name in rows} - {"?"}
        if len(letters) < 2:
            found.append(((s, i + 1, j, k), (m - 1 - s, i + 1 + s, j + s + 1, k + s)))
    return found


def is_plain_stretch(value, size):
    if type(value) is not tuple or len(value) != 4 or any(type(item) is not int for item in value):
        return False
    return min(value) >= 0 and all(value[0] + item <= size for item in value[1:])


def plainly_refutes(value, rows):
    """Whether the value is a refutation, just as the document says it."""
    size = size_of_rows(rows)
    if type(value) is not tuple or not all(is_plain_stretch(item, size) and item[0] > 0 for item in value):
        return False
    if list(value) != sorted(set(value)) or (size, 0, 0, 0) not in value:
        return False
    inside = set(value)
    return all(inside & set(parts) for stretch in value for parts in plain_splits(stretch, rows))


def empty_stretches(rows):
    """The stretches without a tree."""
    @functools.cache
    def has_tree(stretch):
        if stretch[0] == 0:
            return True
        return any(has_tree(left) and has_tree(right) for left, right in plain_splits(stretch, rows))

    return tuple(stretch for stretch in stretches(size_of_rows(rows)) if not has_tree(stretch))


def refuted_rows():
    """Rows that no tree fits."""
    found = [rows for rows in small_rows()[::3] if plain_count(rows) == 0]
    return found + [rows for rows in large_rows() if count_trees(**rows) == 0] + stubborn_rows()


def stubborn_rows():
    """Rows that no tree fits, although most splits near the root are allowed."""
    source = random.Random(83)
    found = [
        {"first": "aab", "last": "aaa"}, {"first": "aaaab", "between": "aaaaa"},
        {"first": "?" * 5 + "ab", "last": "b" * 7},
        {"first": "aaba", "between": "abaa", "last": "baaa"},
    ]
    while len(found) < 60:
        size = source.randrange(3, 10)
        texts = ["".join(source.choice("aaaab?") for _ in range(size)) for _ in ROW_KINDS]
        rows = dict(zip(ROW_KINDS, texts))
        if count_trees(**rows) == 0 and len(find_refutation(**rows)) > 3:
            found.append(rows)
    return [rows for rows in found if count_trees(**rows) == 0]


class Found(WalkCase):
    def test_none_exactly_if_a_tree_fits(self):
        many = {True: 0, False: 0}
        for rows in small_rows() + large_rows() + stubborn_rows():
            found = self.asked(find_refutation, **rows)
            fitting = (plain_count(rows) if size_of_rows(rows) < 6 else count_trees(**rows)) > 0
            many[fitting] += 1
            if fitting:
                self.assertIsNone(found)
            else:
                self.assertTrue(plainly_refutes(found, rows), rows)
                self.assertIs(self.asked(refutation_holds, found, **rows), True)
        self.assertGreater(min(many.values()), 100)

    def test_the_stretches_without_a_tree(self):
        for rows in refuted_rows():
            empty = empty_stretches(rows)
            self.assertIs(refutation_holds(empty, **rows), True)
            self.assertTrue(set(find_refutation(**rows)) <= set(empty))

    def test_no_refutation_where_a_tree_fits(self):
        source = random.Random(89)
        for tree in trees()[::2]:
            rows = rows_of_tree(source, tree, 0.3)
            self.assertIsNone(find_refutation(**rows))
            size = size_of_rows(rows)
            for value in (empty_stretches(rows), ((size, 0, 0, 0),), tuple(stretches(size))):
                self.assertIs(refutation_holds(value, **rows), False)
                with_whole = tuple(sorted({*value, (size, 0, 0, 0)}))
                self.assertIs(refutation_holds(with_whole, **rows), False)

    def test_stubborn_rows_have_long_refutations(self):
        self.assertGreater(max(len(find_refutation(**rows)) for rows in stubborn_rows()), 12)


class Holds(WalkCase):
    def check(self, value, rows):
        expected = plainly_refutes(value, rows)
        self.assertIs(self.asked(refutation_holds, value, **rows), expected, (value, rows))
        self.assertIs(verdict_holds(("refutation", value), **rows), expected)
        return expected

    def test_any_values(self):
        for rows in ({"first": "a"}, {"first": "a", "last": "b"}, {"first": "ab", "last": "ab"}, {"between": "?" * 12}):
            for value in any_values():
                self.check(value, rows)
                self.check((value,), rows)
                self.check(((1, 0, 0, 0), value), rows)
                for at in range(4):
                    self.check(((2, 0, 0, 0)[:at] + (value,) + (2, 0, 0, 0)[at + 1:],), rows)

    def test_stretches_left_out_repeated_and_in_another_order(self):
        source = random.Random(97)
        for rows in refuted_rows():
            for value in (find_refutation(**rows), empty_stretches(rows)):
                at = source.randrange(len(value))
                self.check(value[:at] + value[at + 1:], rows)
                self.assertFalse(self.check(value[:at + 1] + value[at:], rows))
                self.assertFalse(self.check(list(value), rows))
                self.assertFalse(self.check(value[:at] + (list(value[at]),) + value[at + 1:], rows))
                if len(value) > 1:
                    self.assertFalse(self.check(value[::-1], rows))
                    self.assertFalse(self.check(value[1:] + value[:1], rows))

    def test_any_one_stretch_left_out(self):
        for rows in stubborn_rows():
            value = find_refutation(**rows)
            for at in range(len(value)):
                self.check(value[:at] + value[at + 1:], rows)

    def test_stretches_replaced_and_added(self):
        source = random.Random(101)
        accepted = 0
        for rows in refuted_rows():
            for value in (find_refutation(**rows), empty_stretches(rows)):
                for other in source.sample(ODD_STRETCHES, 2) + source.sample(stretches(size_of_rows(rows)), 1):
                    at = source.randrange(len(value))
                    self.check(value[:at] + (other,) + value[at + 1:], rows)
                    self.check((other,) + value, rows)
                    self.check(value + (other,), rows)
                    if is_plain_stretch(other, 12):
                        accepted += self.check(tuple(sorted({*value, other})), rows)
        self.assertGreater(accepted, 20)

    def test_stretches_with_a_part_replaced(self):
        source = random.Random(103)
        for rows in refuted_rows():
            value = find_refutation(**rows)
            for _ in range(6):
                way = (source.randrange(len(value)), source.randrange(4))
                number = value[way[0]][way[1]]
                for part in (number + 1, number - 1, bool(number), str(number), None, (number,)):
                    self.check(changed(value, way, with_part(part)), rows)

    def test_stretches_beyond_the_rows(self):
        for rows in refuted_rows():
            size = size_of_rows(rows)
            value = find_refutation(**rows)
            for other in ((1, size, 0, 0), (1, 0, size, 0), (1, 0, 0, size), (size + 1, 0, 0, 0), (size, 0, 0, 1)):
                self.assertFalse(self.check(tuple(sorted({*value, other})), rows))

    def test_size_zero_is_never_in_it(self):
        for rows in refuted_rows():
            value = find_refutation(**rows)
            self.assertFalse(self.check(((0, 0, 0, 0),) + value, rows))

    def test_all_stretches(self):
        more = [{"first": "?"}, {"first": "ab", "last": "cd"}, {"first": "a" * 12, "last": "b" * 12}]
        for rows in refuted_rows()[::4] + more:
            self.check(tuple(stretches(size_of_rows(rows))), rows)
            self.check(tuple(stretches(size_of_rows(rows))) * 2, rows)
        rows = {"first": "a" * 12, "last": "b" * 12}
        self.assertIs(refutation_holds(tuple(stretches(12)), **rows), True)

    def test_the_whole_is_needed(self):
        for rows in refuted_rows():
            whole = (size_of_rows(rows), 0, 0, 0)
            for value in (find_refutation(**rows), empty_stretches(rows)):
                self.assertIs(refutation_holds(tuple(item for item in value if item != whole), **rows), False)
            self.assertIs(refutation_holds((), **rows), False)

    def test_unions(self):
        source = random.Random(107)
        for rows in refuted_rows():
            empty = empty_stretches(rows)
            smaller = tuple(item for item in empty if item != source.choice(empty))
            parts = [value for value in (find_refutation(**rows), empty, smaller) if plainly_refutes(value, rows)]
            for one, other in itertools.product(parts, repeat=2):
                self.assertIs(refutation_holds(tuple(sorted({*one, *other})), **rows), True)

    def test_unknown_places_get_letters(self):
        source = random.Random(109)
        for rows in refuted_rows():
            value = find_refutation(**rows)
            for letters in ("a", "b", "abz"):
                told = {}
                for name in rows:
                    told[name] = "".join(source.choice(letters) if sign == "?" else sign for sign in rows[name])
                self.assertIs(refutation_holds(value, **told), True)
            more = {name: "?" * size_of_rows(rows) for name in ROW_KINDS}
            self.assertIs(refutation_holds(value, **{**more, **rows}), True)
            self.assertIs(refutation_holds(value, **more), False)


class Verdicts(WalkCase):
    def plainly_holds(self, value, rows):
        if type(value) is not tuple or len(value) != 2 or type(value[0]) is not str:
            return False
        if value[0] == "tree":
            return plainly_a_tree(value[1]) and plainly_fits(value[1], rows)
        return value[0] == "refutation" and plainly_refutes(value[1], rows)

    def check(self, value, rows):
        expected = self.plainly_holds(value, rows)
        self.assertIs(self.asked(verdict_holds, value, **rows), expected, (value, rows))
        return expected

    def test_the_first_tree_or_a_refutation(self):
        for rows in small_rows() + large_rows() + stubborn_rows():
            told = self.asked(verdict, **rows)
            self.assertTrue(self.check(told, rows))
            self.assertEqual(told[0], "tree" if count_trees(**rows) else "refutation")
            if told[0] == "tree":
                self.assertEqual(told[1], tree_at(0, **rows))
                if size_of_rows(rows) < 6 and plain_count(rows) < 100:
                    self.assertEqual(told[1], plain_trees(rows)[0])

    def test_any_tree_that_fits(self):
        source = random.Random(113)
        for tree in trees():
            rows = rows_of_tree(source, tree, 0.4)
            self.assertTrue(self.check(("tree", tree), rows))
            self.check(("tree", drawn(source, len(labels_by_path(tree)))), rows)
            for word in ("Tree", "trees", "", "refutation", "tree ", None, 0, ("tree",), ["tree"]):
                self.assertFalse(self.check((word, tree), rows))
            for value in (tree, ["tree", tree], ("tree", tree, None), ("tree",), ("tree", list(tree)), ("tree", None)):
                self.assertFalse(self.check(value, rows))

    def test_words_around_a_refutation(self):
        for rows in refuted_rows()[::2]:
            found = find_refutation(**rows)
            self.assertTrue(self.check(("refutation", found), rows))
            for word in ("Refutation", "refutations", "tree", "", None, 1, ("refutation",)):
                self.assertFalse(self.check((word, found), rows))
            lone = ("refutation",)
            for value in (found, ["refutation", found], (*lone, found, found), lone, (*lone, None)):
                self.assertFalse(self.check(value, rows))

    def test_parts_changed_once_or_twice(self):
        source = random.Random(127)
        accepted = 0
        for rows in small_rows()[::2] + large_rows()[::2] + stubborn_rows():
            for _ in range(3):
                value = changed_often(source, verdict(**rows), CHANGES, source.randrange(1, 3))
                accepted += self.check(value, rows)
        self.assertGreater(accepted, 20)

    def test_verdicts_of_other_rows(self):
        source = random.Random(131)
        accepted = {True: 0, False: 0}
        for size in range(1, 13):
            group = [drawn_rows(source, size) for _ in range(14)]
            for rows, other in itertools.product(group, repeat=2):
                accepted[self.check(verdict(**other), rows)] += 1
        self.assertGreater(min(accepted.values()), 100)

    def test_any_values(self):
        for rows in ({"first": "a"}, {"first": "a", "last": "b"}, {"between": "?" * 12}):
            for value in any_values():
                for form in (value, ("tree", value), ("refutation", value), (value, value), ("refutation", (value,))):
                    self.check(form, rows)


if __name__ == "__main__":
    unittest.main()
