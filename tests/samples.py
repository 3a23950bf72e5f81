"""Trees and other values for the tests, and plain second ways to tell about them."""

import copy
import itertools
import random
import unittest

LETTERS = "abcdefghijklmnopqrstuvwxyz"
KINDS = ("first", "between", "last", "level")
T = ((None, "b", None), "a", ((None, "d", None), "c", None))


def shapes(size):
    """All trees with so many nodes, each label an a."""
    if size == 0:
        return [None]
    return [
        (left, "a", right)
        for many in range(size)
        for left in shapes(many)
        for right in shapes(size - 1 - many)
    ]


def labelled(shape, letters):
    """The shape with these letters, given out from the root down to the left first."""
    rest = list(letters)

    def named(part):
        if part is None:
            return None
        label = rest.pop(0)
        left = named(part[0])
        return (left, label, named(part[2]))

    return named(shape)


def chain(size, sides):
    """A tree in which each node has at most one child, on the sides in turn."""
    tree = None
    for at in reversed(range(size)):
        label = LETTERS[at % 26]
        tree = (tree, label, None) if sides[at % len(sides)] == "l" else (None, label, tree)
    return tree


def full(size, at=1):
    """The tree with so many nodes all of whose levels but the last one are full."""
    if at > size:
        return None
    return (full(size, 2 * at), LETTERS[(at - 1) % 26], full(size, 2 * at + 1))


def drawn(source, size, letters=LETTERS):
    """A tree of this size, drawn from a seeded source."""
    if size == 0:
        return None
    many = source.randrange(size)
    left = drawn(source, many, letters)
    return (left, source.choice(letters), drawn(source, size - 1 - many, letters))


def small_trees():
    """All shapes of one to four nodes, with different and with equal letters."""
    found = []
    for size in range(1, 5):
        for shape in shapes(size):
            found += [shape, labelled(shape, "qbzakx")]
    return found


def trees():
    """Trees of one to twelve nodes of many forms."""
    found = small_trees()
    for shape in shapes(5):
        found.append(labelled(shape, "mzcay"))
    for size in range(1, 13):
        found += [chain(size, "l"), chain(size, "r"), chain(size, "lr"), chain(size, "rl"), chain(size, "llr")]
        found.append(full(size))
    source = random.Random(11)
    for size in range(1, 13):
        found += [drawn(source, size) for _ in range(6)]
        found += [drawn(source, size, "ab") for _ in range(3)]
    return found


def labels_by_path(tree, path=""):
    """The dict of the labels of all nodes by their paths."""
    if tree is None:
        return {}
    left = labels_by_path(tree[0], path + "l")
    right = labels_by_path(tree[2], path + "r")
    return {path: tree[1], **left, **right}


def tree_from(labels, path=""):
    """The tree with these labels by path: labels_by_path backward."""
    if path not in labels:
        return None
    return (tree_from(labels, path + "l"), labels[path], tree_from(labels, path + "r"))


def open_paths(tree):
    """All paths that lead from a node of the tree to no node."""
    labels = labels_by_path(tree)
    return [path + side for path in labels for side in "lr" if path + side not in labels]


# Behind a path, such a sign stands before, between or behind all that goes on with l
# and with r, so that the order of texts is the order of the walk.
SIGNS = {"first": "", "between": "m", "last": "z"}


def paths_in_order(tree, kind):
    """The paths of all nodes in the order of the walk."""
    paths = list(labels_by_path(tree))
    if kind == "level":
        return sorted(paths, key=lambda path: (len(path), path))
    return sorted(paths, key=lambda path: path + SIGNS[kind])


def plain_walk(tree, kind):
    """The walk, told by the order of the paths."""
    labels = labels_by_path(tree)
    return "".join(labels[path] for path in paths_in_order(tree, kind))


def nested(levels, make):
    """A value of so many levels."""
    value = None
    for _ in range(levels):
        value = make(value)
    return value


def any_values():
    """Values of every sort that a function may be given that accepts any value."""
    return [
        None, True, False, 0, 1, -1, 2, 12, 13, 10 ** 59, -(10 ** 59),
        "", " ", "a", "A", "l", "L", "lr", "first ", "First", "levels", "a" * 2000, "l" * 2000, "~\n ", "None", "0",
        (), (None,), ("l",), ("first",), ("", "a"), (0,), (True,), (None, None, None), T, (T, T),
        [], [None], ["l"], ["first"], [0], [[]], list(T), [T],
        {}, {"l": "r"}, {"first": 1}, {"a": [None, {"b": ()}]},
        nested(40, lambda value: (value,)), nested(40, lambda value: [value]),
        nested(40, lambda value: {"a": value}), nested(40, lambda value: (value, "a", None)),
        list(range(1000)), ("a",) * 1000, "x\ny",
    ]


def not_kinds():
    """Values that are no kinds."""
    more = ["FIRST", "firs", "first\n", " level", "last between", "between,", ("last",), ["level"], KINDS, list(KINDS)]
    return any_values() + more


ODD_PARTS = [
    None, True, False, 0, 1, "", "a", "z", "A", "Z", "ab", "`", "{", " ", "\n", "1", "?", "-", (), [], {},
    (None, "a", None), (None, None, None), (None, "a"), [None, "a", None], ("a", "a", "a"), (None, "a", None, None),
    (None, ("a",), None), (False, "a", None), (None, "a", ()), {"a": None},
]


def nodes_in(value):
    """The number of nodes, or an infinite one if something in the value is not a node."""
    if value is None:
        return 0
    if type(value) is not tuple or len(value) != 3:
        return float("inf")
    left, label, right = value
    if type(label) is not str or label not in list(LETTERS):
        return float("inf")
    return nodes_in(left) + 1 + nodes_in(right)


def plainly_a_tree(value):
    return value is not None and nodes_in(value) <= 12


def spots(value, way=()):
    """The ways to all parts of nested tuples, the whole included."""
    found = [way]
    if isinstance(value, tuple):
        for at, item in enumerate(value):
            found += spots(item, way + (at,))
    return found


def changed(value, way, change):
    """The value in which the change makes another list of the items around the part at the way."""
    if len(way) == 1:
        return tuple(change(list(value), way[0]))
    items = list(value)
    items[way[0]] = changed(items[way[0]], way[1:], change)
    return tuple(items)


def changed_often(source, value, changes, times):
    """The value after so many drawn changes of drawn parts."""
    for _ in range(times):
        ways = spots(value)[1:]
        if ways:
            value = changed(value, source.choice(ways), source.choice(changes))
    return value


def with_part(part):
    return lambda items, at: items[:at] + [part] + items[at + 1:]


def without(items, at):
    return items[:at] + items[at + 1:]


def doubled(items, at):
    return items[:at + 1] + items[at:]


def as_list(items, at):
    return items[:at] + [list(items[at]) if isinstance(items[at], tuple) else [items[at]]] + items[at + 1:]


CHANGES = [with_part(part) for part in ODD_PARTS] + [without, doubled, as_list]
# Changes that often leave a tree.
GENTLE = [with_part(part) for part in (None, "q", (None, "a", None))]


ROW_KINDS = ("first", "between", "last")
CATALAN = (1, 1, 2, 5, 14, 42, 132, 429, 1430, 4862, 16796, 58786, 208012)


def all_row_names():
    """All choices of one, two or three names of rows, in any order."""
    return [names for many in (1, 2, 3) for names in itertools.permutations(ROW_KINDS, many)]


def veiled(source, text, share):
    """The text with a share of its places unknown."""
    return "".join("?" if source.random() < share else sign for sign in text)


def spoiled(source, text, letters):
    """The text with one of its places replaced."""
    at = source.randrange(len(text))
    return text[:at] + source.choice(letters + "?") + text[at + 1:]


def rows_of_tree(source, tree, share):
    """Rows that the tree fits, with a share of their places unknown."""
    names = source.choice(all_row_names())
    return {name: veiled(source, plain_walk(tree, name), share) for name in names}


def drawn_rows(source, size):
    """Rows of this size: what a tree fits, the same with replaced letters, or any signs."""
    letters = source.choice(["a", "ab", "abc", LETTERS])
    sort = source.randrange(4)
    if sort == 0:
        signs = letters + source.choice(["", "?", "?" * len(letters)])
        return {name: "".join(source.choice(signs) for _ in range(size)) for name in source.choice(all_row_names())}
    rows = rows_of_tree(source, drawn(source, size, letters), source.choice([0, 0, 0.2, 0.5, 0.9, 1]))
    if sort == 1:
        for name in rows:
            rows[name] = spoiled(source, rows[name], letters)
    return rows


def size_of_rows(rows):
    return len(list(rows.values())[0])


def plainly_fits(tree, rows):
    """Whether the tree fits, by the walks that the order of the paths tells."""
    told = {name: plain_walk(tree, name) for name in rows}
    if any(len(told[name]) != len(rows[name]) for name in rows):
        return False
    return all(sign in ("?", label) for name in rows for sign, label in zip(rows[name], told[name]))


def labels_told(shape, rows):
    """The dict of the letters that the rows tell for the paths of the shape, or None if they disagree."""
    told = {}
    for name in rows:
        for path, sign in zip(paths_in_order(shape, name), rows[name]):
            if sign != "?" and told.setdefault(path, sign) != sign:
                return None
    return told


def plain_count(rows):
    """The number of trees that fit, shape by shape."""
    size = size_of_rows(rows)
    told = [labels_told(shape, rows) for shape in shapes(size)]
    return sum(26 ** (size - len(labels)) for labels in told if labels is not None)


def tree_key(tree):
    """What orders trees of the same size as section 3 of the document says."""
    if tree is None:
        return ()
    left, label, right = tree
    return (label, len(labels_by_path(left)), tree_key(left), tree_key(right))


def plain_trees(rows):
    """The trees that fit in their order, shape by shape and letter by letter."""
    found = []
    for shape in shapes(size_of_rows(rows)):
        told = labels_told(shape, rows)
        if told is not None:
            paths = list(labels_by_path(shape))
            for letters in itertools.product(*[told.get(path, LETTERS) for path in paths]):
                found.append(tree_from(dict(zip(paths, letters))))
    return sorted(found, key=tree_key)


def small_rows():
    """Rows of one to five places, of every form."""
    found = [{}]
    for size in (1, 2):
        texts = [None] + ["".join(signs) for signs in itertools.product("ab?", repeat=size)]
        for told in itertools.product(texts, repeat=3):
            found.append({name: row for name, row in zip(ROW_KINDS, told) if row is not None})
    source = random.Random(19)
    for size in range(1, 6):
        found += [drawn_rows(source, size) for _ in range(60)]
    return [rows for rows in found if rows]


def large_rows():
    """Rows of six to twelve places."""
    source = random.Random(23)
    return [drawn_rows(source, size) for size in range(6, 13) for _ in range(25)]


class WalkCase(unittest.TestCase):
    """A test case with the checks that hold for every function."""

    def asked(self, function, *args, **more):
        """The result of the call, which must not depend on when it is made or change its arguments."""
        before, more_before = copy.deepcopy(args), copy.deepcopy(more)
        result = function(*args, **more)
        self.assertEqual(repr(result), repr(function(*before, **more_before)))
        self.assertEqual(repr((args, more)), repr((before, more_before)))
        return result

    def check_raises(self, error, field, value, function, *args, **more):
        """The call raises just this error with this very value, and changes nothing.

        The field is None for an error without fields.
        """
        before = repr((args, more))
        for _ in range(2):
            with self.assertRaises((ValueError, LookupError)) as caught:
                function(*args, **more)
            self.assertEqual(type(caught.exception), error)
            if field is not None:
                self.assertIs(getattr(caught.exception, field), value)
            self.assertIsNone(caught.exception.__cause__)
            self.assertIsNone(caught.exception.__context__)
        self.assertEqual(repr((args, more)), before)
