"""Desks: their values, single edits, undo, what they tell, and what they are equal to."""

import random
import unittest

from samples import CHANGES, CLASSES, EDIT_LENGTHS, LETTERS, LOGGED, SEARCHING, DeskCase, T, WalkCase, any_values
from samples import chain, changed_often, drawn, drawn_edit, full, good_edits, labels_by_path, model_of, not_kinds
from samples import open_paths, outcome, plain_walk, plainly_a_letter, plainly_a_tree, plainly_an_edit
from samples import plainly_ascending, shown, spots, trees, trees_for
from treewalks import bounds
from treewalks.desks import Desk, LoggedDesk, LoggedSearchDesk, SearchDesk
from treewalks.errors import BadText, BadTree, LastNode, NoLabel, NoPath, NothingToUndo, NotOpen, NotSearch
from treewalks.errors import NoVersion, TooLarge
from treewalks.texts import tree_text

PROPERTIES = ("version", "size", "first", "between", "last")


class ClassValues(WalkCase):
    def test_values_off_classes_and_objects(self):
        for made in CLASSES:
            for holder in (made, made((None, "a", None))):
                self.assertEqual(repr(holder.MOST_EDITS), "60")
                self.assertEqual(repr(holder.WORDS), "('put', 'cut', 'label', 'turn')")
        self.assertEqual(Desk.MOST_EDITS, bounds.EDITS)

    def test_families(self):
        self.assertEqual(Desk.__bases__, (object,))
        self.assertEqual(SearchDesk.__bases__, (Desk,))
        self.assertEqual(LoggedDesk.__bases__, (Desk,))
        self.assertEqual(LoggedSearchDesk.__bases__, (LoggedDesk, SearchDesk))


class Constructor(DeskCase):
    def test_new_desks(self):
        for made in CLASSES:
            for tree in trees_for(made):
                self.check_shown(made(tree), model_of(made, tree))

    def test_any_values(self):
        source = random.Random(43)
        values = any_values() + [changed_often(source, tree, CHANGES, 1) for tree in trees()]
        values += [chain(13, "l"), full(13), drawn(source, 14), Desk(T), [T], (T,), tree_text(T)]
        for value in values:
            for made in CLASSES:
                if not plainly_a_tree(value):
                    self.check_raises(BadTree, None, None, made, value)
                elif made not in SEARCHING:
                    self.assertEqual(made(value).tree(), value)

    def test_search_desks_of_other_trees(self):
        for made in SEARCHING:
            for tree in trees():
                between = plain_walk(tree, "between")
                told = outcome(made, tree)
                if plainly_ascending(between):
                    self.assertEqual(told[1].tree(), tree)
                else:
                    self.assertEqual(told, ("raises", "NotSearch", between))


class Read(DeskCase):
    def test_read_on_each_class(self):
        for made in CLASSES:
            for tree in trees_for(made):
                desk = made.read(tree_text(tree))
                self.assertIs(type(desk), made)
                self.check_shown(desk, model_of(made, tree))
                self.assertIs(type(desk.read("b")), made)

    def test_texts_that_are_none(self):
        source = random.Random(47)
        texts = ["", "A", "a(", "a(-,-)", "a(b", "ab", " a", "a\n", "a(b,c))", "a(" * 12, "a(b;c)"]
        texts += [tree_text(tree)[:source.randrange(20)] + source.choice("a(),- ") for tree in trees()]
        for text in texts:
            told = outcome(Desk.read, text)
            for made in CLASSES:
                if told[0] == "raises":
                    self.assertEqual(told[1], "BadText")
                    self.check_raises(BadText, "index", told[2], made.read, text)
                elif made in SEARCHING and not plainly_ascending(told[1].between):
                    walk = told[1].between
                    self.assertEqual(outcome(made.read, text), ("raises", "NotSearch", walk))

    def test_other_values(self):
        for made in CLASSES:
            for value in any_values():
                if not isinstance(value, str):
                    self.check_raises(BadText, "index", None, made.read, value)

    def test_search_desks(self):
        for made in SEARCHING:
            with self.assertRaises(NotSearch) as caught:
                made.read("a(b,-)")
            self.assertEqual(caught.exception.walk, "ba")
            self.assertEqual(made.read("a(-,b)").tree(), (None, "a", (None, "b", None)))


class IsEdit(WalkCase):
    def check(self, value):
        for holder in (*CLASSES, Desk(T), LoggedSearchDesk.read("b")):
            self.assertIs(self.asked(holder.is_edit, value), plainly_an_edit(value), value)

    def test_edits_with_any_arguments(self):
        for value in any_values():
            for other in (None, "a", 5, [], value):
                for edit in [("put", value, other), ("label", other, value), ("cut", value), ("turn", value)]:
                    self.assertTrue(plainly_an_edit(edit))
                    self.check(edit)

    def test_other_numbers_of_arguments(self):
        for word in EDIT_LENGTHS:
            for many in range(6):
                self.check((word, *["l"] * many))
                self.check([word, *["l"] * many])

    def test_one_part_replaced(self):
        words = ["put", "cut", "label", "turn", "Put", "put ", "undo", "run", "tree", "read"]
        for edit in [("put", "l", "a"), ("cut", "l"), ("label", "", "b"), ("turn", "r")]:
            for way in spots(edit)[1:]:
                for part in any_values() + words:
                    items = list(edit)
                    items[way[0]] = part
                    self.check(tuple(items))
                    self.check(items)

    def test_any_values(self):
        for value in not_kinds() + ["put", "cut", ("put",), ((),), ({},), ([], "l"), {"cut": "l"}, ("undo",)]:
            self.check(value)
        self.assertIs(Desk.is_edit(Desk(T)), False)


class SingleEdits(DeskCase):
    def test_every_place_of_a_tree(self):
        for made in CLASSES:
            for tree in trees_for(made)[::2]:
                paths = [*labels_by_path(tree), *open_paths(tree)]
                for path in paths + [paths[-1] + "l", "l" * 13]:
                    for edit in [("put", path, "g"), ("cut", path), ("label", path, "g"), ("turn", path)]:
                        desk, model = made(tree), model_of(made, tree)
                        self.check_call(desk, model, *edit)
                        self.check_shown(desk, model)

    def test_sessions_of_edits_and_undo(self):
        odd = any_values()
        for at, made in enumerate(CLASSES * 3):
            source = random.Random(at)
            for tree in trees_for(made)[at % 3::3]:
                desk, model = made(tree), model_of(made, tree)
                for _ in range(30):
                    name, *args = drawn_edit(source, model.tree(), odd) if source.randrange(4) else ("undo",)
                    self.check_call(desk, model, name, *args)
                self.check_shown(desk, model)

    def test_new_versions(self):
        desk = Desk(T)
        told = [desk.put("rr", "e"), desk.label("rr", "f"), desk.turn("r"), desk.cut("l"), desk.version, len(desk)]
        self.assertEqual(repr(told), "[1, 2, 3, 4, 4, 4]")
        self.assertEqual(desk.tree(), (None, "a", ((None, "f", None), "c", (None, "d", None))))
        self.assertEqual(str(desk), "4 nodes, 4 edits")

    def test_edits_that_leave_the_tree_as_it_is_stand(self):
        desk = Desk(T)
        self.assertEqual([desk.label("", "a"), desk.turn("l"), desk.version], [1, 2, 2])
        self.assertEqual(desk.edits(), (("label", "", "a"), ("turn", "l")))
        self.assertEqual(desk.tree(), T)

    def test_every_letter(self):
        desk = Desk(T)
        for at, letter in enumerate(LETTERS):
            self.assertEqual(desk.label("l", letter), at + 1)
            self.assertEqual(desk.tree()[0], (None, letter, None))


class Errors(DeskCase):
    def test_put_anywhere_but_at_an_open_path(self):
        for tree in (T, (None, "m", None), full(12)):
            for value in not_kinds() + [*labels_by_path(tree), "lrl" * 9, "l ", ("l",), ["l"], "rrr"]:
                if not (isinstance(value, str) and value in open_paths(tree)):
                    for label in ("e", "E", None, value):
                        self.check_refused(Desk(tree), NotOpen, "path", value, "put", value, label)

    def test_labels_that_are_none(self):
        for value in any_values() + ["`", "{", "aa", "B", "?", "-", ("a",), ["a"], {"a": "a"}, 97]:
            if not plainly_a_letter(value):
                self.check_refused(Desk(T), NoLabel, "letter", value, "put", "ll", value)
                self.check_refused(Desk(full(12)), NoLabel, "letter", value, "put", "llll", value)
                self.check_refused(Desk(T), NoLabel, "letter", value, "label", "rl", value)

    def test_too_large(self):
        for tree in (full(12), chain(12, "l"), chain(12, "rl")):
            for path in open_paths(tree):
                self.check_refused(Desk(tree), TooLarge, "limit", bounds.MAX_NODES, "put", path, "e")

    def test_no_node_at_the_path(self):
        for value in any_values() + open_paths(T) + ["lrl", "L", "l ", ("l",), ["l"], "."]:
            if not (isinstance(value, str) and value in labels_by_path(T)):
                self.check_refused(Desk(T), NoPath, "value", value, "cut", value)
                self.check_refused(Desk(T), NoPath, "value", value, "turn", value)
                for label in ("e", "E", 5, value):
                    self.check_refused(Desk(T), NoPath, "value", value, "label", value, label)

    def test_last_node(self):
        for tree in trees()[::5]:
            self.check_refused(Desk(tree), LastNode, None, None, "cut", "")


class Undo(DeskCase):
    def test_nothing_to_undo(self):
        for made in CLASSES:
            desk = made.read("b(a,c)")
            self.check_refused(desk, NothingToUndo, None, None, "undo")
            desk.cut("l")
            desk.undo()
            self.check_refused(desk, NothingToUndo, None, None, "undo")

    def test_everything_is_as_before(self):
        for at, made in enumerate(CLASSES * 4):
            source = random.Random(at + 100)
            for tree in trees_for(made)[at % 8::8]:
                desk, model = made(tree), model_of(made, tree)
                told = []
                for edit in good_edits(source, model, 8):
                    told.append({**shown(desk), "log": None})
                    getattr(desk, edit[0])(*edit[1:])
                for version in reversed(range(8)):
                    self.assertEqual(desk.undo(), version)
                    self.assertEqual(repr({**shown(desk), "log": None}), repr(told.pop()))
                self.assertEqual(desk, made(tree))
                self.assertEqual(repr({**shown(desk), "log": ()}), repr({**shown(made(tree)), "log": ()}))

    def test_only_the_standing_edits_count(self):
        for at, made in enumerate(CLASSES * 4):
            source = random.Random(at + 200)
            for tree in trees_for(made)[at % 8::8]:
                desk, model = made(tree), model_of(made, tree)
                for _ in range(25):
                    name, *args = drawn_edit(source, model.tree(), []) if source.randrange(3) else ("undo",)
                    self.check_call(desk, model, name, *args)
                self.check_same_again(made, tree, desk)

    def check_same_again(self, made, tree, desk):
        single, whole = made(tree), made(tree)
        for word, *args in desk.edits():
            getattr(single, word)(*args)
        for start in range(0, len(desk), 20):
            whole.run(desk.edits()[start:start + 20])
        for other in (single, whole):
            self.assertEqual(other, desk)
            self.assertEqual(repr({**shown(other), "log": 0}), repr({**shown(desk), "log": 0}))


class Queries(DeskCase):
    def test_versions(self):
        for made in CLASSES:
            source = random.Random(53)
            for tree in trees_for(made)[::7]:
                desk, model = made(tree), model_of(made, tree)
                for _ in range(20):
                    edit = good_edits(source, model, 1)[0] if source.randrange(3) else ("undo",)
                    self.check_call(desk, model, *edit)
                    told = [self.asked_version(desk, version) for version in range(desk.version + 1)]
                    self.assertEqual(told, [model.tree(version) for version in range(desk.version + 1)])
                    self.assertEqual(list(desk.history()), list(enumerate(told)))
                    self.check_no_version(desk, desk.version + 1)
                    self.check_no_version(desk, -1)

    def asked_version(self, desk, version):
        self.assertEqual(desk.tree(version=version), desk.tree(version=version))
        return desk.tree(version=version)

    def check_no_version(self, desk, value):
        before = repr(shown(desk))
        self.check_raises(NoVersion, "value", value, desk.tree, version=value)
        self.assertEqual(repr(shown(desk)), before)

    def test_values_that_are_no_versions(self):
        for made in CLASSES:
            desk = made.read("b(a,c)")
            desk.cut("l")
            for value in any_values() + [3, -2, 60, 61, "0", (0,), [1], {"version": 0}]:
                if value is None:
                    self.assertEqual(desk.tree(version=None), desk.tree())
                elif type(value) is int and value in (0, 1):
                    self.assertEqual(desk.tree(version=value)[2], (None, "c", None))
                else:
                    self.check_no_version(desk, value)

    def test_an_undone_version_is_gone(self):
        desk = Desk(T)
        desk.cut("l")
        desk.undo()
        self.check_no_version(desk, 1)
        desk.cut("r")
        self.assertEqual(desk.tree(version=1), ((None, "b", None), "a", None))

    def test_version_is_a_keyword(self):
        with self.assertRaises(TypeError):
            Desk(T).tree(0)

    def test_properties_cannot_be_assigned(self):
        for made in CLASSES:
            desk = made.read("b(a,c)")
            for name in PROPERTIES + (("log",) if made in LOGGED else ()):
                before = repr(shown(desk))
                for value in (getattr(desk, name), 0, "x", None):
                    with self.assertRaises(AttributeError):
                        setattr(desk, name, value)
                with self.assertRaises(AttributeError):
                    delattr(desk, name)
                self.assertEqual(repr(shown(desk)), before)

    def test_history_is_a_generator(self):
        desk = Desk(T)
        desk.cut("l")
        steps = desk.history()
        self.assertIs(iter(steps), steps)
        self.assertEqual(next(steps), (0, T))
        self.assertEqual(list(steps), [(1, desk.tree())])
        self.assertEqual(list(steps), [])

    def test_earlier_answers_stay(self):
        desk = LoggedDesk(T)
        told = (desk.tree(), desk.edits(), desk.log, list(desk.history()), desk.first)
        desk.cut("l")
        desk.turn("")
        self.assertEqual(told, (T, (), (), [(0, T)], "abcd"))
        edits = desk.edits()
        desk.undo()
        self.assertEqual(edits, (("cut", "l"), ("turn", "")))


class Equality(WalkCase):
    def test_same_tree_by_different_ways(self):
        for one in CLASSES:
            for other in CLASSES:
                left, right, back = one.read("b(a,c)"), other.read("b(-,c)"), one.read("b(a,c)")
                self.assertNotEqual(left, right)
                right.put("l", "a")
                back.cut("r")
                self.assertFalse(left == back or back == right)
                back.undo()
                for pair in [(left, right), (right, left), (left, back), (back, right), (left, left)]:
                    self.assertIs(pair[0] == pair[1], True)
                    self.assertIs(pair[0] != pair[1], False)
                right.label("l", "a")
                self.assertEqual([left == right, len(left), len(right)], [True, 0, 2])
                right.cut("l")
                self.assertEqual([left == right, right == left, left != right], [False, False, True])

    def test_all_pairs_of_trees(self):
        for one in trees()[::6]:
            for other in trees()[::6]:
                self.assertIs(Desk(one) == LoggedDesk(other), one == other)

    def test_anything_else(self):
        for made in CLASSES:
            desk = made.read("b")
            for value in any_values() + [desk.tree(), "b", (desk,), [desk], str(desk), made, object()]:
                self.assertIs(desk == value, False)
                self.assertIs(value == desk, False)
                self.assertIs(desk != value, True)
                self.assertIs(value != desk, True)

    def test_a_desk_beside_is_not_changed(self):
        for made in CLASSES:
            one, other = made.read("b(a,c)"), made.read("b(a,c)")
            one.cut("l")
            self.assertEqual(repr(shown(other)), repr(shown(made.read("b(a,c)"))))


if __name__ == "__main__":
    unittest.main()
