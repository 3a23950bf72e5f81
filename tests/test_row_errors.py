"""The errors that all functions on rows raise, and which of them comes first."""

import itertools
import unittest

from samples import ROW_KINDS, T, WalkCase, any_values
from treewalks.errors import BadRow, NoFit, NoIndex, NoKind, NoRows, NotAlike
from treewalks.fits import (
    count_trees, each_tree, find_refutation, fits, refutation_holds, sure_rows, tree_at, tree_index, verdict,
    verdict_holds,
)


def first_tree(**rows):
    return next(each_tree(**rows))


def called(function, args, rows):
    """The call, with names of rows that the checks of the test case could not pass on."""
    return function(*args, **rows)


def callers():
    """Each of the ten functions, with first arguments that are wrong too: the errors of rows come first."""
    found = [(function, ()) for function in (count_trees, first_tree, sure_rows, find_refutation, verdict)]
    found += [(fits, (T,)), (fits, ((None, "a", None),))]
    for value in (0, -1, True, None, "x", 10 ** 59, T, ("tree", T), [], {"a": 1}):
        found += [(function, (value,)) for function in (tree_at, tree_index, refutation_holds, verdict_holds)]
    return found


# Each function at least once.
TEN = callers()[:11]


def plainly_a_row(value):
    return type(value) is str and 1 <= len(value) <= 12 and all(sign in "abcdefghijklmnopqrstuvwxyz?" for sign in value)


def not_rows():
    """Values that are no rows."""
    more = [
        "A", "aB", "a b", " ", "a ", " a", "a-", "a.", "a\n", "\n", "a1", "0", "??!", "*", "_", "`", "{", "@", "a" * 13,
        "?" * 13, "abcdefghijklm", "abc" * 100, ("a",), ["a", "b"], ("ab", "ab"), {"first": "ab"}, [["a"]],
    ]
    return [value for value in any_values() if not plainly_a_row(value)] + more


NOT_NAMES = [
    "level", "First", "FIRST", "firs", "first_", "lasts", "betwee", "rows", "row", "a", "self", "kind", "given", "",
    " first", "first ", "name", "args", "order",
]


class RowErrors(WalkCase):
    def check(self, error, field, value, rows, some=callers()):
        for function, args in some:
            self.check_raises(error, field, value, called, function, args, rows)

    def test_no_rows(self):
        self.check(NoRows, None, None, {})

    def test_no_kind(self):
        for name in NOT_NAMES:
            self.check(NoKind, "value", name, {name: "ab"}, TEN)
            self.check(NoKind, "value", name, {"first": "ab", name: "ab"}, TEN)
            self.check(NoKind, "value", name, {name: "ab", "last": "ab"}, TEN)
        self.check(NoKind, "value", "level", {"level": "ab"})

    def test_the_first_wrong_name_is_told(self):
        for one, other in itertools.permutations(NOT_NAMES[:6], 2):
            both = {one: "a", other: "a"}
            for rows in (both, {"last": "a", **both}, {one: 0, "first": "b", other: "a"}):
                self.check(NoKind, "value", one, rows, TEN)

    def test_no_kind_comes_ahead_of_all_others(self):
        for name in ("level", "x"):
            for value in ("A", "", None, "a" * 13, ["a"], 5):
                self.check(NoKind, "value", name, {"first": value, name: "a"}, TEN)
                self.check(NoKind, "value", name, {name: value, "first": "a"}, TEN)
            self.check(NoKind, "value", name, {"first": "a", "last": "ab", name: "a"})
            self.check(NoKind, "value", name, {"first": "a", "last": "b", name: "abc"})

    def test_bad_rows(self):
        for value in not_rows():
            for name in ROW_KINDS:
                self.check(BadRow, "name", name, {name: value}, TEN)
        self.check(BadRow, "name", "between", {"between": "Ab"})
        self.check(BadRow, "name", "last", {"last": ""})

    def test_every_sign(self):
        for code in [10, *range(32, 127)]:
            sign = chr(code)
            for row in (sign, "a" + sign, sign + "?", "abc" + sign + "def"):
                if plainly_a_row(row):
                    self.assertGreater(count_trees(first=row), 0)
                else:
                    self.check_raises(BadRow, "name", "first", count_trees, first=row)

    def test_twelve_places_and_more(self):
        self.assertGreater(count_trees(last="?" * 12), 0)
        self.assertEqual(count_trees(last="a" * 12), 208012)
        for many in (13, 14, 100, 2000):
            self.check(BadRow, "name", "last", {"last": "a" * many}, TEN)

    def test_the_first_bad_row_is_told(self):
        for names in itertools.permutations(ROW_KINDS):
            for value in ("", "A", None, "a" * 13, 0):
                one, two, three = names
                self.check(BadRow, "name", one, {one: value, two: "?!", three: "a"}, TEN)
                self.check(BadRow, "name", two, {one: "ab", two: value, three: value}, TEN)
                self.check(BadRow, "name", three, {one: "ab", two: "ab", three: value}, TEN)

    def test_bad_rows_come_ahead_of_rows_of_different_lengths(self):
        for names in itertools.permutations(ROW_KINDS):
            one, two, three = names
            self.check(BadRow, "name", three, {one: "ab", two: "a", three: "A"})
            self.check(BadRow, "name", three, {one: "ab", two: "abc", three: ""}, TEN)
            self.check(BadRow, "name", one, {one: "a" * 13, two: "abc", three: "a"}, TEN)

    def test_rows_of_different_lengths(self):
        for names in itertools.permutations(ROW_KINDS):
            one, two, three = names
            self.check(NotAlike, "name", two, {one: "ab", two: "a"})
            self.check(NotAlike, "name", two, {one: "ab", two: "abc", three: "ab"}, TEN)
            self.check(NotAlike, "name", two, {one: "ab", two: "???", three: "???"}, TEN)
            self.check(NotAlike, "name", two, {one: "ab", two: "abc", three: "a"}, TEN)
            self.check(NotAlike, "name", three, {one: "ab", two: "ab", three: "a"}, TEN)
            self.check(NotAlike, "name", three, {one: "?" * 12, two: "a" * 12, three: "a" * 11}, TEN)

    def test_behind_the_errors_of_rows(self):
        rows = {"first": "ab", "last": "ab"}
        for value in any_values():
            self.check_raises(NoIndex, "value", value, tree_at, value, **rows)
            self.check_raises(NoFit, None, None, tree_index, value, **rows)
        self.check_raises(NoFit, None, None, sure_rows, **rows)

    def test_right_rows_raise_nothing(self):
        for names in [names for many in (1, 2, 3) for names in itertools.permutations(ROW_KINDS, many)]:
            for row in ("a", "?", "abc", "z?a", "?" * 12):
                rows = {name: row for name in names}
                for function in (count_trees, find_refutation, verdict):
                    self.asked(function, **rows)
                for value in any_values():
                    self.assertIs(refutation_holds(value, **rows), False)
                    self.assertIs(verdict_holds(value, **rows), False)

    def test_each_tree_raises_at_the_latest_when_the_first_tree_is_asked_for(self):
        rows_of = {NoRows: {}, NoKind: {"level": "a"}, BadRow: {"first": 0}, NotAlike: {"last": "a", "first": "ab"}}
        for error, rows in rows_of.items():
            with self.assertRaises(error):
                for _ in each_tree(**rows):
                    self.fail("there is a tree")


if __name__ == "__main__":
    unittest.main()
