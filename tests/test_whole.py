"""What holds over the whole program: the interface, and that all its parts agree."""

import importlib
import inspect
import math
import random
import unittest

from samples import CLASSES, KINDS, SEARCHING, DeskCase, ascending, drawn_edit, labelled, labels_by_path
from samples import model_of, plainly_ascending, search_trees, shapes, trees_for
from treewalks.desks import Desk, LoggedDesk, LoggedSearchDesk, SearchDesk
from treewalks.errors import BadLefts, BadRow, BadText, BadTree, NoFit, NoIndex, NoKind, NoLabel, NoLetter, NoOrder
from treewalks.errors import NoPath, NoPlace, NotOpen, NoVersion
from treewalks.fits import count_trees, each_tree, find_refutation, fits, refutation_holds, sure_rows, tree_at
from treewalks.fits import tree_index, verdict, verdict_holds
from treewalks.nests import count_label, expand_nest, is_nest, label_in, nest_depth, nest_size, nth_label, other_place
from treewalks.pairs import count_pair_trees, each_pair_tree, is_pair, pair_certificate, pair_holds, pair_of, pair_tree
from treewalks.pairs import single_letters
from treewalks.renamings import Renaming
from treewalks.search import count_orders, each_order, inserted, is_search_tree, order_at, order_index
from treewalks.search import search_certificate, search_holds, tree_of
from treewalks.shells import Shell
from treewalks.texts import parse_tree, tree_text
from treewalks.trees import depth_of, each_node, is_tree, joined, mirrored, part_at, replaced, size_of
from treewalks.walks import each_step, path_at, place_of, walk, walks

FUNCTIONS = {
    "trees": {
        "is_tree": "(value)", "size_of": "(tree)", "depth_of": "(tree)", "part_at": "(tree, path)",
        "replaced": "(tree, path, part)", "mirrored": "(tree)", "each_node": "(tree)", "joined": "(label, *trees)",
    },
    "walks": {
        "walk": "(tree, kind)", "walks": "(tree, *kinds)", "place_of": "(tree, kind, path)",
        "path_at": "(tree, kind, place)", "each_step": "(tree, kind)",
    },
    "fits": {
        "fits": "(tree, **rows)", "count_trees": "(**rows)", "tree_at": "(index, **rows)",
        "tree_index": "(value, **rows)", "each_tree": "(**rows)", "sure_rows": "(**rows)",
        "find_refutation": "(**rows)", "refutation_holds": "(value, **rows)", "verdict": "(**rows)",
        "verdict_holds": "(value, **rows)",
    },
    "pairs": {
        "is_pair": "(value)", "pair_of": "(tree)", "pair_certificate": "(pair)", "pair_holds": "(pair, value)",
        "single_letters": "(pair)", "pair_tree": "(pair, lefts)", "count_pair_trees": "(pair)",
        "each_pair_tree": "(pair)",
    },
    "search": {
        "is_search_tree": "(tree)", "search_certificate": "(order)", "search_holds": "(order, value)",
        "inserted": "(tree, letter)", "tree_of": "(order)", "count_orders": "(tree)", "order_at": "(tree, index)",
        "order_index": "(tree, value)", "each_order": "(tree, *, start=0)",
    },
    "nests": {
        "is_nest": "(value)", "nest_size": "(nest)", "count_label": "(nest, label)", "expand_nest": "(nest)",
        "label_in": "(nest, kind, place)", "other_place": "(nest, kind, place, other)",
        "nth_label": "(nest, kind, label, index)", "nest_depth": "(nest)",
    },
    "texts": {"tree_text": "(tree)", "parse_tree": "(text)"},
}
METHODS = {
    Desk: {
        "__init__": "(self, tree)", "put": "(self, path, label)", "cut": "(self, path)", "turn": "(self, path)",
        "label": "(self, path, label)", "undo": "(self)", "run": "(self, edits, *, on_step=None)",
        "tree": "(self, *, version=None)", "edits": "(self)", "history": "(self)", "__len__": "(self)",
        "__str__": "(self)", "__eq__": "(self, other)",
    },
    SearchDesk: {"__init__": "(self, tree)"},
    LoggedDesk: {"__init__": "(self, tree)"},
    LoggedSearchDesk: {"__init__": "(self, tree)"},
    Shell: {"__init__": "(self, desk)", "execute": "(self, line)"},
    Renaming: {
        "__init__": "(self, **letters)", "__call__": "(self, tree, times=1)", "__getitem__": "(self, at)",
        "__contains__": "(self, x)", "__add__": "(self, other)", "__neg__": "(self)", "within": "(self, other)",
        "__eq__": "(self, other)", "__len__": "(self)", "__bool__": "(self)", "__str__": "(self)",
    },
}


class Interface(unittest.TestCase):
    def test_functions(self):
        for name, functions in FUNCTIONS.items():
            module = importlib.import_module(f"treewalks.{name}")
            for function, told in functions.items():
                self.assertEqual(str(inspect.signature(getattr(module, function))), told, function)

    def test_methods_stand_in_the_class_itself(self):
        for made, methods in METHODS.items():
            for name, told in methods.items():
                self.assertEqual(str(inspect.signature(vars(made)[name])), told, (made, name))

    def test_other_members_stand_in_the_class_itself(self):
        for name in ("version", "size", "first", "between", "last"):
            self.assertIsInstance(vars(Desk)[name], property)
        self.assertIsInstance(vars(LoggedDesk)["log"], property)
        self.assertIsInstance(vars(Desk)["read"], classmethod)
        self.assertIsInstance(vars(Renaming)["read"], classmethod)
        self.assertIsInstance(vars(Desk)["is_edit"], staticmethod)
        self.assertEqual([vars(Desk)["MOST_EDITS"], len(vars(Desk)["WORDS"])], [60, 4])

    def test_words_are_methods(self):
        for word in Desk.WORDS:
            self.assertTrue(inspect.isfunction(vars(Desk)[word]))

    def test_generators(self):
        made = [
            each_node(None), each_step(None, "last"), each_tree(first="a"), each_pair_tree(("a", "a")),
            each_order((None, "a", None)), Desk.read("a").history(),
        ]
        for steps in made:
            self.assertTrue(inspect.isgenerator(steps))


class DesksAndFunctions(DeskCase):
    def check_agrees(self, desk):
        """The functions return for the tree of the desk what the desk tells."""
        tree = desk.tree()
        self.assertTrue(is_tree(tree))
        self.assertEqual((desk.size, desk.first, desk.between, desk.last),
                         (size_of(tree), *walks(tree, "first", "between", "last")))
        self.assertTrue(fits(tree, first=desk.first, between=desk.between, last=desk.last))
        self.assertTrue(fits(tree, last=desk.last))
        self.assertIs(is_search_tree(tree), plainly_ascending(desk.between))
        self.assertEqual(parse_tree(Shell(desk).execute("tree")), tree)

    def test_along_sessions(self):
        for at, made in enumerate(CLASSES * 2):
            source = random.Random(at + 300)
            for tree in trees_for(made)[at % 4::4]:
                desk, model = made(tree), model_of(made, tree)
                self.check_agrees(desk)
                for _ in range(15):
                    self.check_call(desk, model, *drawn_edit(source, model.tree(), []))
                    self.check_agrees(desk)

    def test_edits_are_what_the_functions_make(self):
        for tree in trees_for(Desk) + search_trees():
            for path, label in each_node(tree):
                desk = Desk(tree)
                desk.turn(path)
                self.assertEqual(desk.tree(), replaced(tree, path, mirrored(part_at(tree, path))))
                if path:
                    self.assertEqual([desk.undo(), desk.cut(path)], [0, 1])
                    self.assertEqual(desk.tree(), replaced(tree, path, None))

    def test_inserting_is_putting(self):
        for tree in search_trees():
            if size_of(tree) < 12:
                for letter in "acegioqsuwyz":
                    if letter not in walk(tree, "first"):
                        more = inserted(tree, letter)
                        path = [path for path, label in each_node(more) if label == letter][0]
                        for made in SEARCHING:
                            desk = made(tree)
                            desk.put(path, letter)
                            self.assertEqual(desk, Desk(more))

    def test_renamed_desks(self):
        swap = Renaming(a="b", b="a", c="z")
        for tree in trees_for(Desk)[::2]:
            desk = Desk(swap(tree))
            self.assertEqual(desk.first, "".join([swap[letter] for letter in walk(tree, "first")]))
            self.assertEqual(parse_tree(tree_text(swap(tree))), swap(tree))


class ObjectsAsValues(DeskCase):
    """Desks, renamings and shells, alone or inside tuples, where any value may be passed."""

    def values(self):
        found = [Desk.read("a"), LoggedSearchDesk.read("b(a,c)"), Renaming(), Renaming(a="b", b="a")]
        found.append(Shell(found[0]))
        found += [(one, other, third) for one in found for other in found[:3] for third in found[2:4]]
        found += [(None, made, None) for made in found[:5]] + [("tree", made) for made in found[:5]]
        found += [("first", made) for made in found[:5]] + [[made] for made in found[:5]] + [{"a": found[3]}]
        found += [("refutation", found[3]), ("barrier", found[3]), ("barrier", (0, found[2], 1)), ("put", found[0])]
        return found

    def test_none_of_them_holds(self):
        tree = (None, "a", (None, "b", None))
        asked = [
            is_tree, is_nest, is_pair, Desk.is_edit, lambda value: pair_holds(("ab", "ba"), value),
            lambda value: search_holds("bca", value), lambda value: refutation_holds(value, first="ab", last="ab"),
            lambda value: verdict_holds(value, first="ab"), lambda value: Desk(tree) == value,
            lambda value: value in Renaming(a="b"),
        ]
        for value in self.values():
            for function in asked:
                self.assertIs(function(value), False)

    def test_errors_with_the_very_object(self):
        tree = (None, "a", (None, "b", None))
        desk, nest = Desk(tree), ((tree, ()),)
        calls = {
            NoPath: [lambda value: part_at(tree, value), lambda value: replaced(tree, value, None), desk.cut, desk.turn,
                     lambda value: place_of(tree, "last", value), lambda value: desk.label(value, "a")],
            NoKind: [lambda value: walk(tree, value), lambda value: walks(tree, "last", value),
                     lambda value: list(each_step(tree, value))],
            NoPlace: [lambda value: path_at(tree, "last", value), lambda value: label_in(nest, "last", value),
                      lambda value: other_place(nest, "last", value, "first")],
            NoIndex: [lambda value: tree_at(value, first="ab"), lambda value: order_at(tree, value),
                      lambda value: nth_label(nest, "last", "a", value)],
            NoVersion: [lambda value: desk.tree(version=value)],
            NoLetter: [lambda value: Renaming()[value]],
        }
        for value in self.values():
            for error, functions in calls.items():
                for function in functions:
                    self.check_raises(error, "value", value, function, value)
            self.check_raises(NotOpen, "path", value, desk.put, value, "a")
            self.check_raises(NoLabel, "letter", value, desk.put, "l", value)
            self.check_raises(NoLabel, "letter", value, Renaming, a=value)
            self.check_raises(BadLefts, "lefts", value, pair_tree, ("ab", "ba"), value)
            self.check_raises(BadRow, "name", "first", count_trees, first=value)

    def test_errors_without_it(self):
        tree = (None, "a", (None, "b", None))
        for value in self.values():
            self.check_raises(BadTree, None, None, Desk, value)
            self.check_raises(NoFit, None, None, tree_index, value, first="ab")
            self.check_raises(NoOrder, None, None, order_index, tree, value)
            self.check_raises(BadText, "index", None, parse_tree, value)
            self.check_raises(BadText, "index", None, Renaming.read, value)
            self.assertEqual(Shell(Desk(tree)).execute(value), "unknown command")


class SmallTrees(DeskCase):
    """All functions, texts and desks agree about all trees of one to four nodes with ascending letters."""

    def trees(self):
        found = [shape for size in range(1, 5) for shape in shapes(size)]
        return [labelled(shape, "abcd") for shape in found] + [ascending(shape, "abcd") for shape in found]

    def test_trees_and_walks(self):
        for tree in self.trees():
            nodes = list(each_node(tree))
            self.assertEqual(dict(nodes), labels_by_path(tree))
            self.assertEqual(joined(tree[1], tree[0], tree[2]), tree)
            self.assertEqual(mirrored(mirrored(tree)), tree)
            self.assertEqual(depth_of(tree), max(len(path) + 1 for path, _ in nodes))
            for kind in KINDS:
                steps = list(each_step(tree, kind))
                self.assertEqual(sorted(steps), sorted(nodes))
                self.assertEqual("".join([label for _, label in steps]), walk(tree, kind))
                for place, (path, _) in enumerate(steps):
                    self.assertEqual((place_of(tree, kind, path), path_at(tree, kind, place)), (place, path))

    def test_fits(self):
        for tree in self.trees():
            first, between, last = walks(tree, "first", "between", "last")
            for rows in ({"first": first, "between": between}, {"between": between, "last": last}):
                self.assertEqual([list(each_tree(**rows)), count_trees(**rows)], [[tree], 1])
                self.assertEqual([verdict(**rows), tree_index(tree, **rows)], [("tree", tree), 0])
                self.assertEqual(sure_rows(**rows), (first, between, last))
            for rows in ({"first": first}, {"between": between}, {"last": last}, {"first": first, "last": last}):
                found = list(each_tree(**rows))
                self.assertEqual([found.count(tree), len(found)], [1, count_trees(**rows)])
                self.assertEqual(tree_at(tree_index(tree, **rows), **rows), tree)
                self.assertIsNone(find_refutation(**rows))
                self.assertTrue(verdict_holds(("tree", tree), **rows))

    def test_pairs(self):
        for tree in self.trees():
            pair = pair_of(tree)
            self.assertTrue(is_pair(pair))
            found = list(each_pair_tree(pair))
            rows = {"first": pair[0], "last": pair[1]}
            self.assertEqual(sorted(map(tree_text, found)), sorted(map(tree_text, each_tree(**rows))))
            self.assertEqual(count_pair_trees(pair), 2 ** len(single_letters(pair)))
            self.assertEqual(str(count_pair_trees(pair)), Shell(Desk(tree)).execute("trees"))
            self.assertEqual(pair_certificate(pair), ("tree", pair_tree(pair, single_letters(pair))))
            self.assertTrue(pair_holds(pair, ("tree", tree)))

    def test_search(self):
        for tree in self.trees():
            if is_search_tree(tree):
                orders = list(each_order(tree))
                self.assertTrue(all(tree_of(order) == tree for order in orders))
                self.assertEqual([order_at(tree, at) for at in range(len(orders))], orders)
                self.assertEqual([order_index(tree, order) for order in orders], list(range(len(orders))))
                self.assertEqual(search_certificate(walk(tree, "first")), ("tree", tree))
                self.assertTrue(search_holds(walk(tree, "first"), ("tree", tree)))
                self.assertEqual(Shell(SearchDesk(tree)).execute("orders"), str(count_orders(tree)))
            else:
                self.assertEqual(Shell(Desk(tree)).execute("orders"), "none")

    def test_orders_add_up(self):
        for size in range(1, 5):
            found = [ascending(shape, "abcd") for shape in shapes(size)]
            self.assertEqual(sum(count_orders(tree) for tree in found), math.factorial(size))

    def test_nests(self):
        for tree in self.trees():
            nest = ((tree, ()),)
            self.assertTrue(is_nest(nest))
            told = (expand_nest(nest), nest_size(nest), nest_depth(nest))
            self.assertEqual(told, (tree, size_of(tree), depth_of(tree)))
            for kind in ("first", "between", "last"):
                text = walk(tree, kind)
                self.assertEqual("".join([label_in(nest, kind, at) for at in range(len(text))]), text)
                for at, letter in enumerate(text):
                    self.assertEqual([count_label(nest, letter), nth_label(nest, kind, letter, 0)], [1, at])
                    for other in ("first", "between", "last"):
                        self.assertEqual(other_place(nest, kind, at, other), walk(tree, other).index(letter))

    def test_texts_and_desks(self):
        for tree in self.trees():
            self.assertEqual(parse_tree(tree_text(tree)), tree)
            for made in CLASSES:
                if made not in SEARCHING or is_search_tree(tree):
                    desk = made.read(tree_text(tree))
                    self.assertEqual([desk.tree(), desk == Desk(tree)], [tree, True])
                    for kind in KINDS:
                        self.assertEqual(Shell(desk).execute(kind), walk(tree, kind))
                    self.assertEqual(Shell(desk).execute("size"), str(nest_size(((tree, ()),))))

    def test_built_on_a_desk(self):
        for tree in self.trees():
            nodes = list(each_node(tree))
            desk = Desk((None, nodes[0][1], None))
            desk.run([("put", path, label) for path, label in nodes[1:]])
            self.assertEqual([desk.tree(), desk.version], [tree, len(nodes) - 1])


if __name__ == "__main__":
    unittest.main()
