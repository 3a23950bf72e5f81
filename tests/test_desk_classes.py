"""Desks that hold search trees only, and desks that keep a log."""

import random
import unittest

from samples import CLASSES, LETTERS, LOGGED, SEARCHING, DeskCase, T, any_values, drawn_edit, full, good_edits
from samples import labels_by_path, model_of, open_paths, outcome, plain_walk, plainly_ascending, search_trees, shown
from samples import trees, trees_for
from treewalks.desks import Desk, LoggedDesk, LoggedSearchDesk, SearchDesk
from treewalks.errors import BadTree, Busy, LastNode, NoLabel, NoPath, NotOpen, NotSearch, Rejected, TooLarge
from treewalks.errors import TooManyEdits

SMALL = "d(b(a,c),f(e,g))"
LIKE_THIS = [("label", "ll", "a")]


def searching(text):
    """The two desks that hold search trees only, of this text."""
    return [made.read(text) for made in SEARCHING]


class Constructor(DeskCase):
    def test_trees(self):
        for made in SEARCHING:
            for tree in trees() + search_trees():
                between = plain_walk(tree, "between")
                if plainly_ascending(between):
                    self.check_shown(made(tree), model_of(made, tree))
                else:
                    told = outcome(made, tree)
                    self.assertEqual(told, ("raises", "NotSearch", between))
                    self.assertEqual(told, outcome(made, tree))

    def test_values_that_are_no_trees(self):
        for made in SEARCHING:
            for value in any_values() + [(T, "a", None, None), full(13), (None, "A", None), (T, "a", "b")]:
                if value != T:
                    self.check_raises(BadTree, None, None, made, value)

    def test_equal_letters(self):
        for made in SEARCHING:
            told = outcome(made, ((None, "a", None), "a", None))
            self.assertEqual(told, ("raises", "NotSearch", "aa"))


class SearchEdits(DeskCase):
    def test_each_label_at_each_path(self):
        for made in SEARCHING:
            for tree in search_trees()[::3]:
                for letter in "aefhikotuz":
                    for path in open_paths(tree):
                        desk, model = made(tree), model_of(made, tree)
                        self.check_call(desk, model, "put", path, letter)
                        self.check_shown(desk, model)
                    for path in labels_by_path(tree):
                        desk, model = made(tree), model_of(made, tree)
                        self.check_call(desk, model, "label", path, letter)
                        self.check_shown(desk, model)

    def test_turns_and_cuts(self):
        for made in SEARCHING:
            for tree in search_trees():
                for path in labels_by_path(tree):
                    for word in ("turn", "cut"):
                        desk, model = made(tree), model_of(made, tree)
                        self.check_call(desk, model, word, path)
                        self.check_shown(desk, model)

    def test_own_errors_come_first(self):
        for desk in searching(SMALL):
            self.check_refused(desk, NotOpen, "path", "l", "put", "l", "z")
            self.check_refused(desk, NoLabel, "letter", "Z", "put", "lll", "Z")
            self.check_refused(desk, NoPath, "value", "lll", "label", "lll", "z")
            self.check_refused(desk, NoLabel, "letter", "", "label", "", "")
            self.check_refused(desk, NoPath, "value", "rrr", "turn", "rrr")
            self.check_refused(desk, LastNode, None, None, "cut", "")
            for call, walk in [(("put", "lll", "z"), "zabcdefg"), (("label", "", "a"), "abcaefg"),
                               (("label", "r", "e"), "abcdeeg"), (("turn", ""), "gfedcba"), (("turn", "r"), "abcdgfe")]:
                before = repr(shown(desk))
                self.assertEqual(outcome(getattr(desk, call[0]), *call[1:]), ("raises", "NotSearch", walk))
                self.assertEqual(repr(shown(desk)), before)

    def test_too_large_comes_before_not_search(self):
        for made in SEARCHING:
            large = [tree for tree in search_trees() if len(labels_by_path(tree)) == 12]
            for tree in large:
                for path in open_paths(tree):
                    self.check_refused(made(tree), TooLarge, "limit", 12, "put", path, "a")

    def test_the_order_of_all_errors(self):
        for desk in searching(SMALL):
            def step(desk):
                self.check_raises(Busy, None, None, desk.turn, "")
                self.check_raises(Busy, None, None, desk.put, "l", "Z")

            desk.run(LIKE_THIS * 20)
            desk.run(LIKE_THIS * 20)
            desk.run(LIKE_THIS * 20, on_step=step)
            self.check_refused(desk, TooManyEdits, None, None, "turn", "")
            self.check_refused(desk, TooManyEdits, None, None, "put", "l", "Z")
            desk.undo()
            self.check_refused(desk, NotOpen, "path", "l", "put", "l", "Z")
            self.assertEqual(outcome(desk.turn, ""), ("raises", "NotSearch", "gfedcba"))
            self.assertEqual(len(desk), 59)

    def test_turning_what_is_alike(self):
        for desk in searching("b(a,-)"):
            self.assertEqual(outcome(desk.turn, ""), ("raises", "NotSearch", "ba"))
            self.assertEqual([desk.turn("l"), desk.cut("l"), desk.turn("")], [1, 2, 3])

    def test_the_tree_is_always_a_search_tree(self):
        source = random.Random(59)
        odd = any_values()
        for made in SEARCHING:
            for tree in search_trees():
                desk, model = made(tree), model_of(made, tree)
                for _ in range(25):
                    self.check_call(desk, model, *drawn_edit(source, model.tree(), odd))
                    self.assertTrue(plainly_ascending(desk.between))
                self.assertTrue(all(plainly_ascending(plain_walk(tree, "between")) for _, tree in desk.history()))


class SearchRuns(DeskCase):
    def test_rejected_also_if_a_later_edit_leads_back(self):
        for desk in searching(SMALL):
            before = repr(shown(desk))
            batches = [
                ([("turn", ""), ("turn", "")], 0), ([*LIKE_THIS, ("label", "", "z"), ("label", "", "d")], 1),
                ([("cut", "r"), ("turn", "l"), ("cut", "l")], 1), ([("put", "rrr", "a"), ("cut", "rrr")], 0),
            ]
            for edits, at in batches:
                seen = []
                self.check_raises(Rejected, "index", at, desk.run, edits)
                told = outcome(desk.run, edits, on_step=lambda desk: seen.append(desk.between))
                self.assertEqual(told, ("raises", "Rejected", at))
                self.assertEqual(len(seen), at)
                self.assertEqual(repr(shown(desk)), before)

    def test_on_step_is_called_behind_search_trees_only(self):
        source = random.Random(61)
        for made in SEARCHING:
            for tree in search_trees():
                model = model_of(made, tree)
                edits = good_edits(source, model, 5) + [drawn_edit(source, tree, []) for _ in range(4)]
                desk, seen = made(tree), []
                told = outcome(desk.run, edits, on_step=lambda desk: seen.append(desk.between))
                self.assertTrue(all(plainly_ascending(between) for between in seen))
                self.assertEqual(repr(told), repr(model.call("run", edits)))
                self.assertEqual(len(seen), told[2] if told[0] == "raises" else 9)
                model.log = list(desk.log) if made in LOGGED else []
                self.check_shown(desk, model)

    def test_plain_desks_take_the_same_run(self):
        for made in (Desk, LoggedDesk):
            self.assertEqual(made.read(SMALL).run([("turn", ""), ("turn", "")]), 2)


class Log(DeskCase):
    def test_one_row_for_each_call(self):
        for made in LOGGED:
            desk = made.read(SMALL)
            told = [desk.put("rrr", "h"), desk.label("", "d"), desk.undo(), desk.turn("ll"), desk.run([])]
            told += [desk.run(LIKE_THIS * 2), desk.cut("rr"), desk.undo(), desk.undo()]
            self.assertEqual(told, [1, 2, 1, 2, 2, 4, 5, 4, 3])
            names = ["put", "label", "undo", "turn", "run", "run", "cut", "undo", "undo"]
            self.assertEqual(repr(desk.log), repr(tuple(zip(names, told))))

    def test_no_row_for_errors(self):
        for made in LOGGED:
            desk = made.read(SMALL)
            calls = [
                ("put", "l", "a"), ("cut", ""), ("label", "", ""), ("turn", 5), ("undo",), ("run", 5), ("run", [5]),
                ("run", [("cut", "")]), ("run", [("cut", "l"), ("cut", "l")]), ("cut", "rrr"),
            ]
            for name, *args in calls:
                self.assertEqual(outcome(getattr(desk, name), *args)[0], "raises")
                self.assertEqual(desk.log, ())

            def wrong(desk):
                raise KeyError(5)

            with self.assertRaises(KeyError):
                desk.run(LIKE_THIS, on_step=wrong)
            self.assertEqual(outcome(desk.tree, version=1), ("raises", "NoVersion", 1))
            self.assertEqual(desk.log, ())

    def test_no_row_for_queries(self):
        for made in LOGGED:
            desk = made.read(SMALL)
            desk.cut("l")
            self.assertEqual(repr(shown(desk)), repr(shown(desk)))
            self.assertTrue(desk == made.read(SMALL).read("d(-,f(e,g))") and desk.is_edit(("cut", "l")))
            self.assertEqual(desk.log, (("cut", 1),))

    def test_undo_does_not_shorten_it(self):
        for made in LOGGED:
            desk = made.read(SMALL)
            rows = []
            for at in range(5):
                desk.label("", "d")
                desk.undo()
                rows += [("label", 1), ("undo", 0)]
                self.assertEqual(desk.log, tuple(rows))

    def test_earlier_logs_stay(self):
        for made in LOGGED:
            desk, beside = made.read(SMALL), made.read(SMALL)
            kept = [desk.log]
            for _ in range(4):
                desk.label("", "d")
                kept.append(desk.log)
            self.assertEqual(kept, [tuple([("label", at + 1) for at in range(many)]) for many in range(5)])
            self.assertEqual(beside.log, ())
            beside.run(())
            self.assertEqual([beside.log, desk.log], [(("run", 0),), kept[-1]])

    def test_within_on_step_it_is_as_before_the_run(self):
        for made in LOGGED:
            desk, seen = made.read(SMALL), []
            desk.label("", "d")
            desk.run(LIKE_THIS * 3, on_step=lambda desk: seen.append(desk.log))
            self.assertEqual(seen, [(("label", 1),)] * 3)
            self.assertEqual(desk.log, (("label", 1), ("run", 4)))

    def test_busy_calls_add_no_row(self):
        for made in LOGGED:
            desk = made.read(SMALL)
            desk.run(LIKE_THIS, on_step=lambda desk: outcome(desk.undo))
            self.assertEqual(desk.log, (("run", 1),))

    def test_long_logs(self):
        for made in LOGGED:
            desk = made.read(SMALL)
            for _ in range(100):
                desk.label("", "d")
                desk.undo()
            self.assertEqual(desk.log, (("label", 1), ("undo", 0)) * 100)

    def test_other_desks_have_none(self):
        for made in (Desk, SearchDesk):
            self.assertFalse(hasattr(made.read(SMALL), "log"))


class AllFour(DeskCase):
    def test_edits_that_keep_a_search_tree(self):
        for at, tree in enumerate(search_trees()):
            source = random.Random(at)
            desks = [made(tree) for made in CLASSES]
            model = model_of(SearchDesk, tree)
            for _ in range(6):
                edits = good_edits(source, model, 3)
                call = source.choice([edits[0], ("undo",), ("run", edits)])
                expected = model.call(*call)
                for desk in desks:
                    self.assertEqual(outcome(getattr(desk, call[0]), *call[1:]), expected)
                for one in desks:
                    self.assertEqual(repr({**shown(one), "log": 0}), repr({**shown(desks[0]), "log": 0}))
                    for other in desks:
                        self.assertIs(one == other, True)

    def test_both_derive_from_all(self):
        desk = LoggedSearchDesk.read("b")
        self.assertTrue(all(isinstance(desk, made) for made in CLASSES))
        self.assertFalse(isinstance(LoggedDesk.read("b"), SearchDesk) or isinstance(SearchDesk.read("b"), LoggedDesk))

    def test_sessions_that_differ_only_by_search(self):
        for letter in LETTERS:
            plain, search = LoggedDesk.read(SMALL), LoggedSearchDesk.read(SMALL)
            told = [outcome(desk.label, "", letter) for desk in (plain, search)]
            self.assertEqual(told[0], ("ok", 1))
            self.assertEqual(told[1], ("ok", 1) if letter == "d" else ("raises", "NotSearch", f"abc{letter}efg"))

    def test_search_errors_tell_the_tree_that_would_result(self):
        for made in SEARCHING:
            with self.assertRaises(NotSearch) as caught:
                made.read("b").put("l", "c")
            self.assertEqual(caught.exception.walk, "cb")

    def test_new_desks_of_every_tree(self):
        for made in CLASSES:
            for tree in trees_for(made):
                desk = made(tree)
                self.assertEqual(outcome(desk.cut, ""), ("raises", "LastNode"))
                self.assertEqual([desk.run([]), desk.tree()], [0, tree])


if __name__ == "__main__":
    unittest.main()
