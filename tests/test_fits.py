"""Trees that fit: whether one does, how many there are, their numbers and their order."""

import itertools
import random
import unittest

from samples import (
    CATALAN, CHANGES, LETTERS, ROW_KINDS, WalkCase, all_row_names, any_values, chain, changed, drawn, drawn_rows, full,
    labels_by_path, large_rows, plain_count, plain_trees, plain_walk, plainly_a_tree, plainly_fits, rows_of_tree,
    small_rows, spoiled, spots, tree_key, trees, veiled,
)
from treewalks.errors import NoFit, NoIndex
from treewalks.fits import count_trees, each_tree, fits, sure_rows, tree_at, tree_index
from treewalks.trees import mirrored
from treewalks.walks import walks

# So many trees are written out at the most where all that fit are looked at.
FEW = 1500


def few_rows():
    """Small rows that not too many trees fit, with the list of these."""
    return [(rows, plain_trees(rows)) for rows in small_rows() if plain_count(rows) <= FEW]


def some_indexes(source, count):
    """The first and last indexes, and some between them."""
    if count == 0:
        return []
    drawn_ones = [source.randrange(count) for _ in range(4)]
    return sorted({index for index in (0, 1, count - 2, count - 1, *drawn_ones) if 0 <= index < count})


class Fits(WalkCase):
    def check(self, tree, rows):
        self.assertIs(self.asked(fits, tree, **rows), plainly_fits(tree, rows), (tree, rows))

    def test_walks_with_and_without_unknown_places(self):
        source = random.Random(29)
        for tree in trees():
            for names in all_row_names():
                rows = {name: plain_walk(tree, name) for name in names}
                self.assertIs(fits(tree, **rows), True)
                veils = {name: veiled(source, rows[name], 0.4) for name in names}
                self.assertIs(self.asked(fits, tree, **veils), True)
                self.assertIs(fits(tree, **{name: "?" * len(rows[name]) for name in names}), True)

    def test_one_letter_replaced(self):
        for tree in trees():
            for name in ROW_KINDS:
                text = plain_walk(tree, name)
                for at in range(len(text)):
                    other = "a" if text[at] != "a" else "z"
                    rows = {kind: plain_walk(tree, kind) for kind in ROW_KINDS}
                    rows[name] = text[:at] + other + text[at + 1:]
                    self.assertIs(fits(tree, **rows), False)
                    self.assertIs(fits(tree, **{name: rows[name]}), False)
                    self.assertIs(fits(tree, **{name: text[:at] + "?" + text[at + 1:]}), True)

    def test_replaced_letters_and_other_trees(self):
        source = random.Random(31)
        for tree in trees():
            for letters in ("ab", LETTERS):
                rows = rows_of_tree(source, tree, source.choice([0, 0.3, 0.9]))
                self.check(tree, {name: spoiled(source, rows[name], letters) for name in rows})
                size = len(labels_by_path(tree))
                self.check(drawn(source, size, letters), rows)
                self.check(mirrored(tree), rows)

    def test_trees_of_another_size(self):
        for tree in trees():
            size = len(labels_by_path(tree))
            for other in (size - 1, size + 1, 1, 12):
                if 1 <= other <= 12 and other != size:
                    for name in ROW_KINDS:
                        self.assertIs(fits(tree, **{name: "?" * other}), False)
                        self.assertIs(fits(tree, **{name: (plain_walk(tree, name) * 12)[:other]}), False)

    def test_a_row_of_another_kind(self):
        tree = ((None, "b", None), "a", ((None, "d", None), "c", None))
        self.assertIs(fits(tree, first="badc"), False)
        self.assertIs(fits(tree, between="badc"), True)
        self.assertIs(fits(tree, last="badc"), False)


class Small(WalkCase):
    def test_counts(self):
        for rows in small_rows():
            self.assertEqual(repr(self.asked(count_trees, **rows)), repr(plain_count(rows)), rows)

    def test_a_row_without_letters_tells_nothing(self):
        for rows in small_rows():
            count = count_trees(**rows)
            size = len(list(rows.values())[0])
            for name in ROW_KINDS:
                if name not in rows:
                    self.assertEqual(count_trees(**rows, **{name: "?" * size}), count)
                    self.assertEqual(count_trees(**{name: "?" * size}, **rows), count)

    def test_all_trees_by_their_indexes(self):
        for rows, expected in few_rows():
            for index, tree in enumerate(expected):
                if index < 60 or index >= len(expected) - 60:
                    self.assertEqual(tree_at(index, **rows), tree, rows)
                    self.assertEqual(repr(tree_index(tree, **rows)), repr(index), rows)

    def test_all_trees_one_by_one(self):
        for rows, expected in few_rows():
            self.assertEqual(list(each_tree(**rows)), expected, rows)
            self.assertEqual(list(each_tree(**rows)), expected, rows)

    def test_no_index(self):
        for rows in small_rows()[::7]:
            count = plain_count(rows)
            for index in (-1, count, count + 1, -count - 1, 10 ** 59, -(10 ** 59)):
                self.check_raises(NoIndex, "value", index, tree_at, index, **rows)

    def test_sure_rows(self):
        for rows, expected in few_rows():
            if not expected:
                self.check_raises(NoFit, None, None, sure_rows, **rows)
                continue
            texts = [[plain_walk(tree, name) for tree in expected] for name in ROW_KINDS]
            signs = [[set(letters) for letters in zip(*kind)] for kind in texts]
            told = tuple("".join(min(sign) if len(sign) == 1 else "?" for sign in kind) for kind in signs)
            self.assertEqual(repr(self.asked(sure_rows, **rows)), repr(told), rows)

    def test_rows_that_more_trees_fit(self):
        # The rows that few_rows leaves out.
        source = random.Random(37)
        for rows in small_rows():
            count = plain_count(rows)
            if count > FEW:
                for index in some_indexes(source, count):
                    tree = tree_at(index, **rows)
                    self.assertTrue(plainly_fits(tree, rows))
                    self.assertEqual(tree_index(tree, **rows), index)


class Large(WalkCase):
    def check_numbers(self, rows, source):
        count = self.asked(count_trees, **rows)
        indexes = some_indexes(source, count)
        found = [self.asked(tree_at, index, **rows) for index in indexes]
        for index, tree in zip(indexes, found):
            self.assertTrue(plainly_a_tree(tree))
            self.assertTrue(plainly_fits(tree, rows), rows)
            self.assertEqual(repr(self.asked(tree_index, tree, **rows)), repr(index))
        for one, other in zip(found, found[1:]):
            self.assertLess(tree_key(one), tree_key(other))
        for index in (-1, count, count + 1):
            self.check_raises(NoIndex, "value", index, tree_at, index, **rows)
        self.assertEqual(list(itertools.islice(each_tree(**rows), 2)), [tree_at(at, **rows) for at in indexes[:2]])

    def test_indexes(self):
        source = random.Random(41)
        for rows in large_rows():
            self.check_numbers(rows, source)

    def test_every_tree_that_fits_has_an_index(self):
        source = random.Random(43)
        for tree in trees():
            for share in (0, 0.3, 0.7):
                rows = rows_of_tree(source, tree, share)
                index = self.asked(tree_index, tree, **rows)
                self.assertIn(index, range(count_trees(**rows)))
                self.assertEqual(tree_at(index, **rows), tree)

    def test_one_row_alone(self):
        source = random.Random(47)
        for size in range(1, 13):
            for name in ROW_KINDS:
                text = "".join(source.choice(LETTERS) for _ in range(size))
                for known in (LETTERS[:size], LETTERS[:size][::-1], "a" * size, text):
                    self.assertEqual(count_trees(**{name: known}), CATALAN[size])
                    self.check_numbers({name: known}, source)
                self.assertEqual(count_trees(**{name: "?" * size}), CATALAN[size] * 26 ** size)
                self.check_numbers({name: "?" * size}, source)
                half = known[:size // 2] + "?" * (size - size // 2)
                self.assertEqual(count_trees(**{name: half}), CATALAN[size] * 26 ** (size - size // 2))

    def test_rows_without_letters(self):
        for size in range(1, 13):
            for names in all_row_names():
                count = count_trees(**{name: "?" * size for name in names})
                self.assertEqual(count, CATALAN[size] * 26 ** size)

    def test_different_letters_with_between(self):
        # Together with the walk "between" each other walk of different letters tells the tree.
        source = random.Random(53)
        for size in range(1, 13):
            for _ in range(5):
                tree = drawn(source, size)
                letters = iter(source.sample(LETTERS, size))
                labels = {path: next(letters) for path in labels_by_path(tree)}
                rows = dict(zip(("first", "between", "last"), walks(with_labels(tree, labels), *ROW_KINDS)))
                for name in ("first", "last"):
                    pair = {name: rows[name], "between": rows["between"]}
                    self.assertEqual(list(each_tree(**pair)), [with_labels(tree, labels)])
                    self.assertEqual(sure_rows(**pair), tuple(rows.values()))

    def test_sure_rows(self):
        source = random.Random(59)
        for rows in large_rows():
            count = count_trees(**rows)
            if count == 0:
                self.check_raises(NoFit, None, None, sure_rows, **rows)
                continue
            sure = dict(zip(ROW_KINDS, self.asked(sure_rows, **rows)))
            for name in rows:
                for sign, told in zip(rows[name], sure[name]):
                    self.assertIn(sign, ("?", told))
            # The sure letters go without saying, and each other place has two letters.
            self.assertEqual(count_trees(**sure), count)
            for index in some_indexes(source, count):
                self.assertTrue(plainly_fits(tree_at(index, **rows), sure))
            open_places = [(name, at) for name in ROW_KINDS for at, sign in enumerate(sure[name]) if sign == "?"]
            if open_places:
                for name, place in source.sample(open_places, 1 + len(open_places) // 12):
                    choices = [sure[name][:place] + letter + sure[name][place + 1:] for letter in LETTERS]
                    counts = [count_trees(**{**sure, name: choice}) for choice in choices]
                    self.assertEqual(sum(counts), count)
                    self.assertGreater(len([many for many in counts if many]), 1)


def with_labels(tree, labels, path=""):
    if tree is None:
        return None
    left, right = with_labels(tree[0], labels, path + "l"), with_labels(tree[2], labels, path + "r")
    return (left, labels[path], right)


class EachTree(WalkCase):
    def test_the_first_ones_of_many(self):
        for rows in ({"first": "?" * 12}, {"last": "?" * 12, "between": "?" * 12}, {"between": "abcdefghijkl"}):
            some = list(itertools.islice(each_tree(**rows), 300))
            self.assertEqual(some, [tree_at(index, **rows) for index in range(300)])
            self.assertEqual(list(itertools.islice(each_tree(**rows), 300)), some)

    def test_nothing_if_no_tree_fits(self):
        for rows in large_rows() + small_rows():
            if count_trees(**rows) == 0:
                self.assertEqual(list(each_tree(**rows)), [])

    def test_it_is_a_generator(self):
        found = each_tree(first="ab")
        self.assertIs(iter(found), found)
        self.assertEqual(next(found), (None, "a", (None, "b", None)))
        self.assertEqual(next(found), ((None, "b", None), "a", None))
        self.assertEqual(list(found), [])

    def test_left_early_and_within_one_another(self):
        rows, other = {"first": "a?c"}, {"last": "ab?d", "first": "????"}
        one = [tree_at(index, **rows) for index in range(count_trees(**rows))]
        two = [tree_at(index, **other) for index in range(20)]
        for many in range(len(one)):
            found = each_tree(**rows)
            self.assertEqual([next(found) for _ in range(many)], one[:many])
            found.close()
        both = [(tree, list(itertools.islice(each_tree(**other), 20))) for tree in each_tree(**rows)]
        self.assertEqual(both, [(tree, two) for tree in one])
        self.assertEqual(list(zip(each_tree(**rows), each_tree(**rows))), list(zip(one, one)))


class NoNumbers(WalkCase):
    ROWS = ({"first": "ab"}, {"first": "abc", "last": "cba"}, {"between": "?" * 12}, {"first": "ab", "last": "ab"})

    def test_other_values_are_no_indexes(self):
        for rows in self.ROWS:
            count = count_trees(**rows)
            for value in any_values():
                if not (type(value) is int and 0 <= value < count):
                    self.check_raises(NoIndex, "value", value, tree_at, value, **rows)

    def test_other_values_are_no_trees(self):
        for rows in self.ROWS:
            for value in any_values():
                if not (plainly_a_tree(value) and plainly_fits(value, rows)):
                    self.check_raises(NoFit, None, None, tree_index, value, **rows)

    def test_trees_that_do_not_fit(self):
        source = random.Random(61)
        for tree in trees():
            size = len(labels_by_path(tree))
            for rows in (drawn_rows(source, size), drawn_rows(source, source.randrange(1, 13))):
                if not plainly_fits(tree, rows):
                    self.check_raises(NoFit, None, None, tree_index, tree, **rows)

    def test_changed_trees(self):
        source = random.Random(67)
        for tree in trees():
            rows = rows_of_tree(source, tree, source.choice([0.2, 1]))
            for _ in range(4):
                value = changed(tree, source.choice(spots(tree)[1:]), source.choice(CHANGES))
                if plainly_a_tree(value) and plainly_fits(value, rows):
                    self.assertEqual(tree_at(tree_index(value, **rows), **rows), value)
                else:
                    self.check_raises(NoFit, None, None, tree_index, value, **rows)

    def test_thirteen_nodes(self):
        for tree in (chain(13, "l"), full(13)):
            self.check_raises(NoFit, None, None, tree_index, tree, first="?" * 12)


class ChangedRows(WalkCase):
    TURNED = {"first": "last", "between": "between", "last": "first"}

    def test_mirrored(self):
        source = random.Random(71)
        for rows in large_rows() + small_rows()[::5]:
            turned = {self.TURNED[name]: rows[name][::-1] for name in rows}
            count = count_trees(**rows)
            self.assertEqual(count_trees(**turned), count)
            for index in some_indexes(source, count):
                tree = mirrored(tree_at(index, **rows))
                self.assertTrue(fits(tree, **turned))
                self.assertEqual(tree_at(tree_index(tree, **turned), **turned), tree)
            if count:
                sure = sure_rows(**rows)
                self.assertEqual(sure_rows(**turned), tuple(row[::-1] for row in reversed(sure)))

    def test_mirrored_trees_are_all_of_them(self):
        for rows, expected in few_rows()[::3]:
            turned = {self.TURNED[name]: rows[name][::-1] for name in rows}
            self.assertEqual(sorted(map(mirrored, each_tree(**turned)), key=tree_key), expected)

    def test_other_letters(self):
        source = random.Random(73)
        for rows in large_rows() + small_rows()[::5]:
            names = "".join(source.sample(LETTERS, 26))
            table = str.maketrans(LETTERS, names)
            renamed = {name: rows[name].translate(table) for name in rows}
            count = count_trees(**rows)
            self.assertEqual(count_trees(**renamed), count)
            if count:
                expected = tuple(row.translate(table) for row in sure_rows(**rows))
                self.assertEqual(sure_rows(**renamed), expected)

    def test_without_a_row(self):
        for rows in large_rows() + small_rows()[::5]:
            for name in rows:
                rest = {other: rows[other] for other in rows if other != name}
                if rest:
                    self.assertGreaterEqual(count_trees(**rest), count_trees(**rows))

    def test_with_a_place_unknown(self):
        for rows in large_rows() + small_rows()[::5]:
            count = count_trees(**rows)
            for name in rows:
                for at in range(len(rows[name])):
                    row = rows[name][:at] + "?" + rows[name][at + 1:]
                    self.assertGreaterEqual(count_trees(**{**rows, name: row}), count)

    def test_rows_in_another_order(self):
        source = random.Random(79)
        for rows in large_rows() + small_rows()[::5]:
            for names in itertools.permutations(rows):
                again = {name: rows[name] for name in names}
                count = count_trees(**rows)
                self.assertEqual(count_trees(**again), count)
                for index in some_indexes(source, count)[:2]:
                    self.assertEqual(tree_at(index, **again), tree_at(index, **rows))


if __name__ == "__main__":
    unittest.main()
