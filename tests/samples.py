"""Trees and other values for the tests, and plain second ways to tell about them."""

import copy
import itertools
import random
import unittest

from treewalks.desks import Desk, LoggedDesk, LoggedSearchDesk, SearchDesk

LETTERS = "abcdefghijklmnopqrstuvwxyz"
KINDS = ("first", "between", "last", "level")
T = ((None, "b", None), "a", ((None, "d", None), "c", None))


def shapes(size):
    """All trees with so many nodes, each label an a."""
    if size == 0:
        return [None]
    return [
        (left, "a", right)
        for many in range(size)
        for left in shapes(many)
        for right in shapes(size - 1 - many)
    ]


def labelled(shape, letters):
    """The shape with these letters, given out from the root down to the left first."""
    rest = list(letters)

    def named(part):
        if part is None:
            return None
        label = rest.pop(0)
        left = named(part[0])
        return (left, label, named(part[2]))

    return named(shape)


def chain(size, sides):
    """A tree in which each node has at most one child, on the sides in turn."""
    tree = None
    for at in reversed(range(size)):
        label = LETTERS[at % 26]
        tree = (tree, label, None) if sides[at % len(sides)] == "l" else (None, label, tree)
    return tree


def full(size, at=1):
    """The tree with so many nodes all of whose levels but the last one are full."""
    if at > size:
        return None
    return (full(size, 2 * at), LETTERS[(at - 1) % 26], full(size, 2 * at + 1))


def drawn(source, size, letters=LETTERS):
    """A tree of this size, drawn from a seeded source."""
    if size == 0:
        return None
    many = source.randrange(size)
    left = drawn(source, many, letters)
    return (left, source.choice(letters), drawn(source, size - 1 - many, letters))


def small_trees():
    """All shapes of one to four nodes, with different and with equal letters."""
    found = []
    for size in range(1, 5):
        for shape in shapes(size):
            found += [shape, labelled(shape, "qbzakx")]
    return found


def trees():
    """Trees of one to twelve nodes of many forms."""
    found = small_trees()
    for shape in shapes(5):
        found.append(labelled(shape, "mzcay"))
    for size in range(1, 13):
        found += [chain(size, "l"), chain(size, "r"), chain(size, "lr"), chain(size, "rl"), chain(size, "llr")]
        found.append(full(size))
    source = random.Random(11)
    for size in range(1, 13):
        found += [drawn(source, size) for _ in range(6)]
        found += [drawn(source, size, "ab") for _ in range(3)]
    return found


def labels_by_path(tree, path=""):
    """The dict of the labels of all nodes by their paths."""
    if tree is None:
        return {}
    left = labels_by_path(tree[0], path + "l")
    right = labels_by_path(tree[2], path + "r")
    return {path: tree[1], **left, **right}


def tree_from(labels, path=""):
    """The tree with these labels by path: labels_by_path backward."""
    if path not in labels:
        return None
    return (tree_from(labels, path + "l"), labels[path], tree_from(labels, path + "r"))


def open_paths(tree):
    """All paths that lead from a node of the tree to no node."""
    labels = labels_by_path(tree)
    return [path + side for path in labels for side in "lr" if path + side not in labels]


# Behind a path, such a sign stands before, between or behind all that goes on with l
# and with r, so that the order of texts is the order of the walk.
SIGNS = {"first": "", "between": "m", "last": "z"}


def paths_in_order(tree, kind):
    """The paths of all nodes in the order of the walk."""
    paths = list(labels_by_path(tree))
    if kind == "level":
        return sorted(paths, key=lambda path: (len(path), path))
    return sorted(paths, key=lambda path: path + SIGNS[kind])


def plain_walk(tree, kind):
    """The walk, told by the order of the paths."""
    labels = labels_by_path(tree)
    return "".join(labels[path] for path in paths_in_order(tree, kind))


def nested(levels, make):
    """A value of so many levels."""
    value = None
    for _ in range(levels):
        value = make(value)
    return value


def any_values():
    """Values of every sort that a function may be given that accepts any value."""
    return [
        None, True, False, 0, 1, -1, 2, 12, 13, 10 ** 59, -(10 ** 59),
        "", " ", "a", "A", "l", "L", "lr", "first ", "First", "levels", "a" * 2000, "l" * 2000, "~\n ", "None", "0",
        (), (None,), ("l",), ("first",), ("", "a"), (0,), (True,), (None, None, None), T, (T, T),
        [], [None], ["l"], ["first"], [0], [[]], list(T), [T],
        {}, {"l": "r"}, {"first": 1}, {"a": [None, {"b": ()}]},
        nested(40, lambda value: (value,)), nested(40, lambda value: [value]),
        nested(40, lambda value: {"a": value}), nested(40, lambda value: (value, "a", None)),
        list(range(1000)), ("a",) * 1000, "x\ny",
    ]


def not_kinds():
    """Values that are no kinds."""
    more = ["FIRST", "firs", "first\n", " level", "last between", "between,", ("last",), ["level"], KINDS, list(KINDS)]
    return any_values() + more


ODD_PARTS = [
    None, True, False, 0, 1, "", "a", "z", "A", "Z", "ab", "`", "{", " ", "\n", "1", "?", "-", (), [], {},
    (None, "a", None), (None, None, None), (None, "a"), [None, "a", None], ("a", "a", "a"), (None, "a", None, None),
    (None, ("a",), None), (False, "a", None), (None, "a", ()), {"a": None},
]


def nodes_in(value):
    """The number of nodes, or an infinite one if something in the value is not a node."""
    if value is None:
        return 0
    if type(value) is not tuple or len(value) != 3:
        return float("inf")
    left, label, right = value
    if type(label) is not str or label not in list(LETTERS):
        return float("inf")
    return nodes_in(left) + 1 + nodes_in(right)


def plainly_a_tree(value):
    return value is not None and nodes_in(value) <= 12


def spots(value, way=()):
    """The ways to all parts of nested tuples, the whole included."""
    found = [way]
    if isinstance(value, tuple):
        for at, item in enumerate(value):
            found += spots(item, way + (at,))
    return found


def changed(value, way, change):
    """The value in which the change makes another list of the items around the part at the way."""
    if len(way) == 1:
        return tuple(change(list(value), way[0]))
    items = list(value)
    items[way[0]] = changed(items[way[0]], way[1:], change)
    return tuple(items)


def changed_often(source, value, changes, times):
    """The value after so many drawn changes of drawn parts."""
    for _ in range(times):
        ways = spots(value)[1:]
        if ways:
            value = changed(value, source.choice(ways), source.choice(changes))
    return value


def with_part(part):
    return lambda items, at: items[:at] + [part] + items[at + 1:]


def without(items, at):
    return items[:at] + items[at + 1:]


def doubled(items, at):
    return items[:at + 1] + items[at:]


def as_list(items, at):
    return items[:at] + [list(items[at]) if isinstance(items[at], tuple) else [items[at]]] + items[at + 1:]


CHANGES = [with_part(part) for part in ODD_PARTS] + [without, doubled, as_list]
# Changes that often leave a tree.
GENTLE = [with_part(part) for part in (None, "q", (None, "a", None))]


ROW_KINDS = ("first", "between", "last")
CATALAN = (1, 1, 2, 5, 14, 42, 132, 429, 1430, 4862, 16796, 58786, 208012)


def all_row_names():
    """All choices of one, two or three names of rows, in any order."""
    return [names for many in (1, 2, 3) for names in itertools.permutations(ROW_KINDS, many)]


def veiled(source, text, share):
    """The text with a share of its places unknown."""
    return "".join("?" if source.random() < share else sign for sign in text)


def spoiled(source, text, letters):
    """The text with one of its places replaced."""
    at = source.randrange(len(text))
    return text[:at] + source.choice(letters + "?") + text[at + 1:]


def rows_of_tree(source, tree, share):
    """Rows that the tree fits, with a share of their places unknown."""
    names = source.choice(all_row_names())
    return {name: veiled(source, plain_walk(tree, name), share) for name in names}


def drawn_rows(source, size):
    """Rows of this size: what a tree fits, the same with replaced letters, or any signs."""
    letters = source.choice(["a", "ab", "abc", LETTERS])
    sort = source.randrange(4)
    if sort == 0:
        signs = letters + source.choice(["", "?", "?" * len(letters)])
        return {name: "".join(source.choice(signs) for _ in range(size)) for name in source.choice(all_row_names())}
    rows = rows_of_tree(source, drawn(source, size, letters), source.choice([0, 0, 0.2, 0.5, 0.9, 1]))
    if sort == 1:
        for name in rows:
            rows[name] = spoiled(source, rows[name], letters)
    return rows


def size_of_rows(rows):
    return len(list(rows.values())[0])


def plainly_fits(tree, rows):
    """Whether the tree fits, by the walks that the order of the paths tells."""
    told = {name: plain_walk(tree, name) for name in rows}
    if any(len(told[name]) != len(rows[name]) for name in rows):
        return False
    return all(sign in ("?", label) for name in rows for sign, label in zip(rows[name], told[name]))


def labels_told(shape, rows):
    """The dict of the letters that the rows tell for the paths of the shape, or None if they disagree."""
    told = {}
    for name in rows:
        for path, sign in zip(paths_in_order(shape, name), rows[name]):
            if sign != "?" and told.setdefault(path, sign) != sign:
                return None
    return told


def plain_count(rows):
    """The number of trees that fit, shape by shape."""
    size = size_of_rows(rows)
    told = [labels_told(shape, rows) for shape in shapes(size)]
    return sum(26 ** (size - len(labels)) for labels in told if labels is not None)


def tree_key(tree):
    """What orders trees of the same size as section 3 of the document says."""
    if tree is None:
        return ()
    left, label, right = tree
    return (label, len(labels_by_path(left)), tree_key(left), tree_key(right))


def plain_trees(rows):
    """The trees that fit in their order, shape by shape and letter by letter."""
    found = []
    for shape in shapes(size_of_rows(rows)):
        told = labels_told(shape, rows)
        if told is not None:
            paths = list(labels_by_path(shape))
            for letters in itertools.product(*[told.get(path, LETTERS) for path in paths]):
                found.append(tree_from(dict(zip(paths, letters))))
    return sorted(found, key=tree_key)


def small_rows():
    """Rows of one to five places, of every form."""
    found = [{}]
    for size in (1, 2):
        texts = [None] + ["".join(signs) for signs in itertools.product("ab?", repeat=size)]
        for told in itertools.product(texts, repeat=3):
            found.append({name: row for name, row in zip(ROW_KINDS, told) if row is not None})
    source = random.Random(19)
    for size in range(1, 6):
        found += [drawn_rows(source, size) for _ in range(60)]
    return [rows for rows in found if rows]


def large_rows():
    """Rows of six to twelve places."""
    source = random.Random(23)
    return [drawn_rows(source, size) for size in range(6, 13) for _ in range(25)]


class WalkCase(unittest.TestCase):
    """A test case with the checks that hold for every function."""

    def asked(self, function, *args, **more):
        """The result of the call, which must not depend on when it is made or change its arguments."""
        before, more_before = copy.deepcopy(args), copy.deepcopy(more)
        result = function(*args, **more)
        self.assertEqual(repr(result), repr(function(*before, **more_before)))
        self.assertEqual(repr((args, more)), repr((before, more_before)))
        return result

    def check_raises(self, error, field, value, function, *args, **more):
        """The call raises just this error with this very value, and changes nothing.

        The field is None for an error without fields.
        """
        before = repr((args, more))
        for _ in range(2):
            with self.assertRaises((ValueError, LookupError)) as caught:
                function(*args, **more)
            self.assertEqual(type(caught.exception), error)
            if field is not None:
                self.assertIs(getattr(caught.exception, field), value)
            self.assertIsNone(caught.exception.__cause__)
            self.assertIsNone(caught.exception.__context__)
        self.assertEqual(repr((args, more)), before)


def outcome(function, *args, **more):
    """("ok", result), or ("raises", name, ...) with the fields of the error and what it was chained to."""
    try:
        return ("ok", function(*args, **more))
    except (ValueError, LookupError) as error:
        chained = [part for part in (error.__cause__, error.__context__) if part is not None]
        return ("raises", type(error).__name__, *vars(error).values(), *chained)


def ascending(shape, letters):
    """The shape with these letters, given out in the order of the walk "between"."""
    return tree_from(dict(zip(paths_in_order(shape, "between"), letters)))


def plainly_ascending(text):
    return list(text) == sorted(set(text))


def search_trees():
    """Search trees of one to twelve nodes."""
    found = [ascending(shape, "fhkptx") for size in range(1, 5) for shape in shapes(size)]
    source = random.Random(29)
    for size in range(5, 13):
        for _ in range(4):
            found.append(ascending(drawn(source, size), sorted(source.sample(LETTERS, size))))
    return found


EDIT_LENGTHS = {"put": 3, "cut": 2, "label": 3, "turn": 2}


def plainly_an_edit(value):
    if type(value) is not tuple or len(value) == 0 or type(value[0]) is not str:
        return False
    return EDIT_LENGTHS.get(value[0]) == len(value)


def plainly_a_letter(value):
    return type(value) is str and value in list(LETTERS)


def swapped(text):
    """The path with left and right exchanged."""
    return text.translate(str.maketrans("lr", "rl"))


def plain_edit(labels, word, path, label=None):
    """The labels by path after the edit, or the tuple of the name of the error and its field."""
    is_text = type(path) is str
    if word == "put":
        if not is_text or path in labels or path[-1:] not in ("l", "r") or path[:-1] not in labels:
            return ("NotOpen", path)
    elif not is_text or path not in labels:
        return ("NoPath", path)
    if word in ("put", "label") and not plainly_a_letter(label):
        return ("NoLabel", label)
    if word == "put" and len(labels) == 12:
        return ("TooLarge", 12)
    if word == "cut":
        below = {at: labels[at] for at in labels if not at.startswith(path)}
        return below or ("LastNode",)
    if word == "turn":
        many = len(path)
        return {at[:many] + (swapped(at[many:]) if at.startswith(path) else at[many:]): labels[at] for at in labels}
    return {**labels, path: label}


class PlainDesk:
    """A second way to keep a desk: labels by path, and all edits that stand done again for each question."""

    def __init__(self, tree, searching):
        self.start = labels_by_path(tree)
        self.searching = searching
        self.done = []
        self.log = []

    def labels(self, version):
        labels = self.start
        for edit in self.done[:version]:
            labels = plain_edit(labels, *edit)
        return labels

    def tree(self, version=None):
        return tree_from(self.labels(len(self.done) if version is None else version))

    def refusal(self, edit):
        """The error of the edit as a tuple, or None."""
        if len(self.done) == 60:
            return ("TooManyEdits",)
        told = plain_edit(self.labels(len(self.done)), *edit)
        if isinstance(told, tuple):
            return told
        between = plain_walk(tree_from(told), "between")
        if self.searching and not plainly_ascending(between):
            return ("NotSearch", between)
        return None

    def refusal_of_run(self, edits):
        """The error of the run as a tuple, or None; then its edits stand."""
        if type(edits) not in (list, tuple) or len(edits) > 20:
            return ("BadEdits",)
        for index, edit in enumerate(edits):
            if not plainly_an_edit(edit):
                return ("BadEdit", index)
        before = list(self.done)
        for index, edit in enumerate(edits):
            if self.refusal(edit) is not None:
                self.done = before
                return ("Rejected", index)
            self.done.append(edit)
        return None

    def call(self, name, *args):
        """What the call of this method returns or raises, in the form of outcome."""
        if name == "undo":
            error = None if self.done else ("NothingToUndo",)
            self.done = self.done[:-1]
        elif name == "run":
            error = self.refusal_of_run(*args)
        else:
            error = self.refusal((name, *args))
            if error is None:
                self.done.append((name, *args))
        if error is not None:
            return ("raises", *error)
        self.log.append((name, len(self.done)))
        return ("ok", len(self.done))

    def shown(self, logged):
        """What shown tells of a desk."""
        trees = [self.tree(version) for version in range(len(self.done) + 1)]
        size = len(labels_by_path(trees[-1]))
        return {
            "tree": trees[-1], "edits": tuple(self.done), "len": len(self.done), "version": len(self.done),
            "str": f"{size} nodes, {len(self.done)} edits", "size": size, "trees": trees,
            "walks": [plain_walk(trees[-1], kind) for kind in ROW_KINDS], "history": list(enumerate(trees)),
            "log": tuple(self.log) if logged else None,
        }


def shown(desk):
    """All that a desk tells about itself."""
    return {
        "tree": desk.tree(), "edits": desk.edits(), "len": len(desk), "version": desk.version,
        "str": str(desk), "size": desk.size, "trees": [desk.tree(version=at) for at in range(len(desk) + 1)],
        "walks": [desk.first, desk.between, desk.last], "history": list(desk.history()),
        "log": desk.log if hasattr(desk, "log") else None,
    }


def drawn_path(source, tree, odd):
    """A path of a node, an open one, one below, or one of the odd values."""
    sort = source.randrange(12)
    if sort < 6:
        return source.choice(list(labels_by_path(tree)))
    if sort < 10:
        return source.choice(open_paths(tree))
    if sort == 10 or not odd:
        return source.choice(open_paths(tree)) + source.choice("lr")
    return source.choice(odd)


def drawn_edit(source, tree, odd):
    """An edit, often one that can be done, perhaps with odd values as its arguments."""
    word = source.choice(list(EDIT_LENGTHS))
    path = drawn_path(source, tree, odd)
    label = source.choice(odd) if odd and source.randrange(9) == 0 else source.choice(LETTERS)
    return (word, path, label)[:EDIT_LENGTHS[word]]


def good_edits(source, model, many, words=tuple(EDIT_LENGTHS)):
    """So many edits that the model takes one after another; it is then as before."""
    before, found = list(model.done), []
    while len(found) < many:
        edit = drawn_edit(source, model.tree(), [])
        if edit[0] in words and model.refusal(edit) is None:
            model.done.append(edit)
            found.append(edit)
    model.done = before
    return found


CLASSES = (Desk, SearchDesk, LoggedDesk, LoggedSearchDesk)
SEARCHING = (SearchDesk, LoggedSearchDesk)
LOGGED = (LoggedDesk, LoggedSearchDesk)


def model_of(made, tree):
    """The second way to keep a desk of this class."""
    return PlainDesk(tree, made in SEARCHING)


def trees_for(made):
    """Trees of one to twelve nodes that a desk of this class can hold."""
    return search_trees() if made in SEARCHING else trees()[::3]


class DeskCase(WalkCase):
    def check_shown(self, desk, model):
        """The desk tells the same as the model, and the same when it is asked again."""
        told = repr(shown(desk))
        self.assertEqual(told, repr(model.shown(type(desk) in LOGGED)))
        self.assertEqual(told, repr(shown(desk)))

    def check_call(self, desk, model, name, *args):
        """The call of this method ends as the model says, and changes no argument."""
        before = repr(args)
        expected = model.call(name, *copy.deepcopy(args))
        told = outcome(getattr(desk, name), *args)
        self.assertEqual(repr(told), repr(expected), (name, args))
        if told[0] == "raises" and told[1] in ("NotOpen", "NoPath"):
            self.assertIs(told[2], args[0])
        if told[0] == "raises" and told[1] == "NoLabel":
            self.assertIs(told[2], args[1])
        self.assertEqual(repr(args), before)
        return told

    def check_refused(self, desk, error, field, value, name, *args):
        """The call raises just this error and leaves everything as it was."""
        before = repr(shown(desk))
        self.check_raises(error, field, value, getattr(desk, name), *args)
        self.assertEqual(repr(shown(desk)), before)


def answered(session):
    """The repr of the last expression of the session, or the error that it raises."""
    *before, last = [line[4:] for line in session.splitlines() if line.startswith(">>> ")]
    names = {}
    for line in before:
        exec(line, names)
    try:
        return repr(eval(last, names))
    except (ValueError, LookupError) as error:
        return f"raises {type(error).__name__}({', '.join(repr(value) for value in vars(error).values())})"


class ExampleCase(unittest.TestCase):
    def check_sessions(self, text, many):
        sessions = text.strip().split("\n\n")
        self.assertEqual(len(sessions), many)
        for session in sessions:
            with self.subTest(session):
                self.assertEqual(answered(session), session.splitlines()[-1])
