"""Trees and other values for the tests, and plain second ways to tell about them."""

import copy
import random
import unittest

LETTERS = "abcdefghijklmnopqrstuvwxyz"
KINDS = ("first", "between", "last", "level")
T = ((None, "b", None), "a", ((None, "d", None), "c", None))


def shapes(size):
    """All trees with so many nodes, each label an a."""
    if size == 0:
        return [None]
    return [
        (left, "a", right)
        for many in range(size)
        for left in shapes(many)
        for right in shapes(size - 1 - many)
    ]


def labelled(shape, letters):
    """The shape with these letters, given out from the root down to the left first."""
    rest = list(letters)

    def named(part):
        if part is None:
            return None
        label = rest.pop(0)
        left = named(part[0])
        return (left, label, named(part[2]))

    return named(shape)


def chain(size, sides):
    """A tree in which each node has at most one child, on the sides in turn."""
    tree = None
    for at in reversed(range(size)):
        label = LETTERS[at % 26]
        tree = (tree, label, None) if sides[at % len(sides)] == "l" else (None, label, tree)
    return tree


def full(size, at=1):
    """The tree with so many nodes all of whose levels but the last one are full."""
    if at > size:
        return None
    return (full(size, 2 * at), LETTERS[(at - 1) % 26], full(size, 2 * at + 1))


def drawn(source, size, letters=LETTERS):
    """A tree of this size, drawn from a seeded source."""
    if size == 0:
        return None
    many = source.randrange(size)
    left = drawn(source, many, letters)
    return (left, source.choice(letters), drawn(source, size - 1 - many, letters))


def small_trees():
    """All shapes of one to four nodes, with different and with equal letters."""
    found = []
    for size in range(1, 5):
        for shape in shapes(size):
            found += [shape, labelled(shape, "qbzakx")]
    return found


def trees():
    """Trees of one to twelve nodes of many forms."""
    found = small_trees()
    for shape in shapes(5):
        found.append(labelled(shape, "mzcay"))
    for size in range(1, 13):
        found += [chain(size, "l"), chain(size, "r"), chain(size, "lr"), chain(size, "rl"), chain(size, "llr")]
        found.append(full(size))
    source = random.Random(11)
    for size in range(1, 13):
        found += [drawn(source, size) for _ in range(6)]
        found += [drawn(source, size, "ab") for _ in range(3)]
    return found


def labels_by_path(tree, path=""):
    """The dict of the labels of all nodes by their paths."""
    if tree is None:
        return {}
    left = labels_by_path(tree[0], path + "l")
    right = labels_by_path(tree[2], path + "r")
    return {path: tree[1], **left, **right}


def tree_from(labels, path=""):
    """The tree with these labels by path: labels_by_path backward."""
    if path not in labels:
        return None
    return (tree_from(labels, path + "l"), labels[path], tree_from(labels, path + "r"))


def open_paths(tree):
    """All paths that lead from a node of the tree to no node."""
    labels = labels_by_path(tree)
    return [path + side for path in labels for side in "lr" if path + side not in labels]


# Behind a path, such a sign stands before, between or behind all that goes on with l
# and with r, so that the order of texts is the order of the walk.
SIGNS = {"first": "", "between": "m", "last": "z"}


def paths_in_order(tree, kind):
    """The paths of all nodes in the order of the walk."""
    paths = list(labels_by_path(tree))
    if kind == "level":
        return sorted(paths, key=lambda path: (len(path), path))
    return sorted(paths, key=lambda path: path + SIGNS[kind])


def plain_walk(tree, kind):
    """The walk, told by the order of the paths."""
    labels = labels_by_path(tree)
    return "".join(labels[path] for path in paths_in_order(tree, kind))


def nested(levels, make):
    """A value of so many levels."""
    value = None
    for _ in range(levels):
        value = make(value)
    return value


def any_values():
    """Values of every sort that a function may be given that accepts any value."""
    return [
        None, True, False, 0, 1, -1, 2, 12, 13, 10 ** 59, -(10 ** 59),
        "", " ", "a", "A", "l", "L", "lr", "first ", "First", "levels", "a" * 2000, "l" * 2000, "~\n ", "None", "0",
        (), (None,), ("l",), ("first",), ("", "a"), (0,), (True,), (None, None, None), T, (T, T),
        [], [None], ["l"], ["first"], [0], [[]], list(T), [T],
        {}, {"l": "r"}, {"first": 1}, {"a": [None, {"b": ()}]},
        nested(40, lambda value: (value,)), nested(40, lambda value: [value]),
        nested(40, lambda value: {"a": value}), nested(40, lambda value: (value, "a", None)),
        list(range(1000)), ("a",) * 1000, "x\ny",
    ]


def not_kinds():
    """Values that are no kinds."""
    more = ["FIRST", "firs", "first\n", " level", "last between", "between,", ("last",), ["level"], KINDS, list(KINDS)]
    return any_values() + more


class WalkCase(unittest.TestCase):
    """A test case with the checks that hold for every function."""

    def asked(self, function, *args):
        """The result of the call, which must not depend on when it is made or change its arguments."""
        before = copy.deepcopy(args)
        result = function(*args)
        self.assertEqual(repr(result), repr(function(*before)))
        self.assertEqual(repr(args), repr(before))
        return result

    def check_raises(self, error, field, value, function, *args):
        """The call raises just this error with this very value, and changes nothing."""
        before = repr(args)
        for _ in range(2):
            with self.assertRaises((ValueError, LookupError)) as caught:
                function(*args)
            self.assertEqual(type(caught.exception), error)
            self.assertIs(getattr(caught.exception, field), value)
            self.assertIsNone(caught.exception.__cause__)
            self.assertIsNone(caught.exception.__context__)
        self.assertEqual(repr(args), before)
