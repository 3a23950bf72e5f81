"""Runs of edits on desks, what on_step may do in them, and the limit of sixty edits."""

import copy
import random
import unittest

from samples import CLASSES, LOGGED, SEARCHING, DeskCase, any_values, drawn_edit, good_edits, model_of, outcome, shown
from samples import trees_for
from treewalks.desks import Desk, LoggedDesk, LoggedSearchDesk, SearchDesk
from treewalks.errors import BadEdit, BadEdits, Busy, NoPath, NothingToUndo, Rejected, TooManyEdits, WalkError

SMALL = "d(b(a,c),f(e,g))"
AGAIN = [("label", "ll", "a")]


def without_log(desk):
    """All that the desk tells but its log."""
    return {**shown(desk), "log": None}


def full_desk(made, source=None):
    """A desk on which sixty edits stand, done one by one or by runs."""
    desk = made.read(SMALL)
    if source is None:
        for _ in range(60):
            desk.label("ll", "a")
        return desk
    while len(desk) < 60:
        many = min(source.randrange(21), 60 - len(desk))
        desk.run(AGAIN * many)
    return desk


class RunCase(DeskCase):
    def check_run_refused(self, desk, error, field, value, edits, **more):
        """The run raises just this error, does nothing, and leaves the desk free."""
        before, passed = repr(shown(desk)), repr(edits)
        self.check_raises(error, field, value, desk.run, edits, **more)
        self.assertEqual((repr(shown(desk)), repr(edits)), (before, passed))
        desk.run([], on_step=None)


class Runs(RunCase):
    def test_good_batches_of_every_size(self):
        for at, made in enumerate(CLASSES):
            source = random.Random(at)
            for many in range(21):
                tree = source.choice(trees_for(made))
                for kind in (list, tuple):
                    desk, model = made(tree), model_of(made, tree)
                    edits = kind(good_edits(source, model, many))
                    self.check_call(desk, model, "run", edits)
                    self.check_shown(desk, model)
                    self.assertEqual(len(desk), many)

    def test_sessions_with_runs(self):
        odd = any_values()
        for at, made in enumerate(CLASSES * 4):
            source = random.Random(at + 10)
            for tree in trees_for(made)[at % 5::5]:
                desk, model = made(tree), model_of(made, tree)
                for _ in range(12):
                    self.check_call(desk, model, *self.drawn_call(source, model, odd))
                self.check_shown(desk, model)

    def drawn_call(self, source, model, odd):
        sort = source.randrange(6)
        if sort == 0:
            return ("undo",)
        if sort == 1:
            return drawn_edit(source, model.tree(), odd)
        many = source.choice([0, 1, 2, 3, 5, 19, 20])
        edits = good_edits(source, model, min(many, 60 - len(model.done)))
        if sort == 2:
            edits.insert(source.randrange(len(edits) + 1), drawn_edit(source, model.tree(), odd))
        if sort == 3:
            edits.insert(source.randrange(len(edits) + 1), source.choice(odd))
        return ("run", source.choice([list, tuple])(edits))

    def test_each_edit_is_undone_by_itself(self):
        for at, made in enumerate(CLASSES):
            source = random.Random(at + 20)
            for tree in trees_for(made)[::6]:
                model = model_of(made, tree)
                edits = good_edits(source, model, 7)
                desk, single = made(tree), made(tree)
                desk.run(edits)
                told = []
                for word, *args in edits:
                    told.append(without_log(single))
                    getattr(single, word)(*args)
                self.assertEqual(without_log(desk), without_log(single))
                for before in reversed(told):
                    desk.undo()
                    self.assertEqual(without_log(desk), before)

    def test_batches_that_are_none(self):
        for made in CLASSES:
            desk = made.read(SMALL)
            wrong = [value for value in any_values() if not isinstance(value, (list, tuple))]
            wrong += [[("cut", "ll")] * 21, (("cut", "ll"),) * 21, [5] * 21, {"cut": "l"}, "cut", [None] * 1000]
            for value in wrong:
                self.check_run_refused(desk, BadEdits, None, None, value)
                self.check_run_refused(desk, BadEdits, None, None, value, on_step=self.fail)

    def test_items_that_are_no_edits(self):
        wrong = [None, 5, "cut", ("cut",), ("cut", "l", "a"), ["cut", "l"], (), ("undo",), ("put", "l"), ("run", [])]
        for made in CLASSES:
            desk = made.read(SMALL)
            for item in wrong:
                for size in (1, 2, 5, 20):
                    for at in {0, size // 2, size - 1}:
                        for other in (("label", "ll", "a"), ("cut", "no path")):
                            edits = [other] * at + [item] * (size - at)
                            self.check_run_refused(desk, BadEdit, "index", at, edits, on_step=self.fail)
                            self.check_run_refused(desk, BadEdit, "index", at, tuple(edits))

    def test_any_lists_and_tuples(self):
        for value in any_values():
            if isinstance(value, (list, tuple)):
                desk, model = Desk.read(SMALL), model_of(Desk, Desk.read(SMALL).tree())
                self.check_call(desk, model, "run", value)
                self.check_shown(desk, model)

    def test_edits_that_raise_errors(self):
        wrong = [
            ("put", "l", "z"), ("put", 5, "z"), ("put", "lll", "A"), ("cut", ""), ("cut", "lll"), ("cut", ["l"]),
            ("label", "rrr", "a"), ("label", "", ()), ("turn", "x"), ("turn", None), ("put", ["l"], {"a": 1}),
        ]
        for made in CLASSES:
            for item in wrong:
                for size in (1, 3, 20):
                    for at in {0, size // 2, size - 1}:
                        desk, steps = made.read(SMALL), []
                        desk.label("rr", "g")
                        edits = AGAIN * at + [item] + AGAIN * (size - at - 1)
                        self.check_run_refused(desk, Rejected, "index", at, edits)
                        told = outcome(desk.run, edits, on_step=lambda desk: steps.append(len(desk)))
                        self.assertEqual(told, ("raises", "Rejected", at))
                        self.assertEqual(steps, list(range(2, at + 2)))

    def test_too_large_within_a_run(self):
        desk = Desk.read(SMALL)
        edits = [("put", path + side, "x") for path in ("ll", "lr", "rl") for side in "lr"]
        self.check_run_refused(desk, Rejected, "index", 5, edits)
        self.assertEqual([desk.run(edits[:5]), desk.size], [5, 12])

    def test_an_empty_run(self):
        for made in CLASSES:
            desk = made.read(SMALL)
            for many in (0, 1):
                self.assertEqual([desk.run([]), desk.run((), on_step=self.fail)], [many, many])
                desk.label("ll", "a")

    def test_on_step_is_a_keyword(self):
        with self.assertRaises(TypeError):
            Desk.read(SMALL).run([], None)

    def test_later_changes_of_the_list(self):
        desk = Desk.read(SMALL)
        edits = [("cut", "l"), ("cut", "r")]
        desk.run(edits)
        edits[0] = ("turn", "")
        edits.clear()
        self.assertEqual(desk.edits(), (("cut", "l"), ("cut", "r")))


class Steps(RunCase):
    def test_it_looks_at_the_desk(self):
        for at, made in enumerate(CLASSES):
            source = random.Random(at + 30)
            for tree in trees_for(made)[::4]:
                model = model_of(made, tree)
                desk, seen = made(tree), []
                edits = good_edits(source, model, 6)

                def look(passed):
                    self.assertIs(passed, desk)
                    seen.append(shown(passed))
                    return "not used"

                self.assertEqual(desk.run(edits, on_step=look), 6)
                for edit, told in zip(edits, seen, strict=True):
                    model.done.append(edit)
                    self.assertEqual(repr(told), repr(model.shown(made in LOGGED)))
                model.log.append(("run", 6))
                self.check_shown(desk, model)

    def check_busy(self, desk):
        """All that changes the desk raises Busy alone, whatever it is passed."""
        before = repr(shown(desk))
        odd = [None, "", "ll", "lll", "x", 5, (), ["l"], "a", "A"]
        for value in odd:
            for name in ("cut", "turn"):
                self.check_raises(Busy, None, None, getattr(desk, name), value)
            for other in odd:
                for name in ("put", "label"):
                    self.check_raises(Busy, None, None, getattr(desk, name), value, other)
        self.check_raises(Busy, None, None, desk.undo)
        for edits in ([], (), AGAIN, [("cut", "no")], [5], 5, None, AGAIN * 21, {}):
            self.check_raises(Busy, None, None, desk.run, edits)
            self.check_raises(Busy, None, None, desk.run, edits, on_step=self.fail)
        self.assertEqual(repr(shown(desk)), before)

    def test_busy_before_any_other_error(self):
        for made in CLASSES:
            for before in (0, 3):
                desk, steps = made.read(SMALL), []
                desk.run(AGAIN * before)

                def busy(desk):
                    self.check_busy(desk)
                    steps.append(len(desk))

                self.assertEqual(desk.run(AGAIN * 2, on_step=busy), before + 2)
                self.assertEqual(steps, [before + 1, before + 2])
                self.assertEqual([desk.undo(), desk.cut("rr")], [before + 1, before + 2])

    def test_a_second_desk_is_free(self):
        for made in CLASSES:
            for other in CLASSES:
                desk, beside, told = made.read(SMALL), other.read(SMALL), []

                def work(passed):
                    told.append([beside.cut("l"), beside.undo(), beside.run([("cut", "l"), ("cut", "r")])])
                    told.append([beside.run(AGAIN[:0]), beside.undo(), beside.undo()])
                    told.append(outcome(beside.cut, "no"))
                    self.check_raises(Busy, None, None, desk.cut, "l")

                self.assertEqual(desk.run(AGAIN * 2, on_step=work), 2)
                self.assertEqual(told, [[1, 0, 2], [2, 1, 0], ("raises", "NoPath", "no")] * 2)
                self.assertEqual(beside, other.read(SMALL))

    def test_runs_within_runs_of_two_desks(self):
        desk, beside = LoggedDesk.read(SMALL), LoggedSearchDesk.read(SMALL)

        def inner(passed):
            self.check_raises(Busy, None, None, desk.cut, "l")
            self.check_raises(Busy, None, None, beside.cut, "l")

        def outer(passed):
            beside.run(AGAIN, on_step=inner)
            beside.undo()
            self.check_raises(Busy, None, None, desk.undo)

        self.assertEqual(desk.run(AGAIN * 3, on_step=outer), 3)
        self.assertEqual(desk.log, (("run", 3),))
        self.assertEqual(beside.log, (("run", 1), ("undo", 0)) * 3)

    def test_another_desk_of_the_same_run_fails_in_it(self):
        desk, beside = Desk.read(SMALL), Desk.read(SMALL)

        def step(passed):
            beside.run(AGAIN, on_step=lambda passed: desk.cut("l"))

        with self.assertRaises(Busy):
            desk.run(AGAIN, on_step=step)
        self.assertEqual([len(desk), len(beside), desk.cut("l"), beside.cut("l")], [0, 0, 1, 1])

    def test_it_changes_the_passed_list(self):
        for made in CLASSES:
            for change in (list.clear, lambda edits: edits.append(5), lambda edits: edits.insert(0, ("cut", "")),
                           list.reverse, lambda edits: edits.extend(AGAIN * 30)):
                edits = [("cut", "ll"), ("cut", "lr"), ("cut", "l")]
                desk, steps = made.read(SMALL), []

                def step(desk):
                    change(edits)
                    steps.append(desk.version)

                self.assertEqual(desk.run(edits, on_step=step), 3)
                self.assertEqual(steps, [1, 2, 3])
                self.assertEqual(desk.edits(), (("cut", "ll"), ("cut", "lr"), ("cut", "l")))

    def test_it_changes_what_an_edit_is_passed(self):
        path = ["x"]
        desk = Desk.read(SMALL)
        told = outcome(desk.run, [("cut", "l"), ("cut", path)], on_step=lambda desk: path.append("r"))
        self.assertEqual(told, ("raises", "Rejected", 1))
        self.assertEqual(len(desk), 0)

    def exceptions(self):
        return [
            ValueError("x"), KeyError("x"), TypeError(), RuntimeError(), StopIteration(3), ZeroDivisionError(),
            Exception(), AttributeError("x"), KeyboardInterrupt(), GeneratorExit(), Busy(), Rejected(0), BadEdit(7),
            BadEdits(), TooManyEdits(), NothingToUndo(), NoPath("l"), WalkError(), LookupError(), AssertionError(),
        ]

    def test_exceptions_of_any_class_at_any_step(self):
        for made in CLASSES:
            for wrong in self.exceptions():
                for at in (0, 1, 4):
                    desk = made.read(SMALL)
                    desk.run([("label", "rr", "h")])
                    before = repr(shown(desk))

                    def step(desk):
                        if desk.version == at + 2:
                            raise wrong

                    with self.assertRaises(BaseException) as caught:
                        desk.run(AGAIN * 5, on_step=step)
                    self.assertIs(caught.exception, wrong)
                    self.assertIsNone(wrong.__cause__)
                    self.assertIsNone(wrong.__context__)
                    self.assertEqual(repr(shown(desk)), before)
                    self.assertEqual([desk.run([]), desk.cut("rr"), desk.undo(), desk.undo()], [1, 2, 1, 0])

    def test_busy_of_the_desk_itself_propagates(self):
        calls = [
            lambda desk: desk.cut("l"), lambda desk: desk.undo(), lambda desk: desk.run([]), lambda desk: desk.turn(5),
            lambda desk: desk.run(5), lambda desk: desk.put(None, None), lambda desk: desk.label("", ""),
        ]
        for made in CLASSES:
            for call in calls:
                desk = made.read(SMALL)
                desk.cut("rr")
                before = repr(shown(desk))
                self.assertEqual(outcome(desk.run, [("cut", "ll"), ("cut", "l")], on_step=call), ("raises", "Busy"))
                self.assertEqual(repr(shown(desk)), before)
                self.assertEqual(desk.undo(), 0)

    def test_a_handled_busy_does_no_harm(self):
        desk = Desk.read(SMALL)
        told = []
        self.assertEqual(desk.run(AGAIN * 3, on_step=lambda desk: told.append(outcome(desk.undo))), 3)
        self.assertEqual(told, [("raises", "Busy")] * 3)

    def test_answers_in_it_do_not_change_later_ones(self):
        for made in CLASSES:
            desk, quiet = made.read(SMALL), made.read(SMALL)
            kept = []

            def ask(desk):
                told = shown(desk)
                kept.append((told, copy.deepcopy(told)))
                outcome(desk.tree, version=99)
                desk == made.read("b")

            for target, step in ((desk, ask), (quiet, None)):
                target.run([("cut", "ll"), ("label", "rr", "k"), ("cut", "l")], on_step=step)
                target.undo()
            self.assertEqual(repr(shown(desk)), repr(shown(quiet)))
            for told, copied in kept:
                self.assertEqual(told, copied)

    def test_an_object_that_is_called(self):
        class Steps:
            seen = 0

            def __call__(self, desk):
                self.seen += len(desk)

            def __len__(self):
                return 0

        steps = Steps()
        Desk.read(SMALL).run(AGAIN * 4, on_step=steps)
        self.assertEqual(steps.seen, 10)


class Sixty(RunCase):
    def test_one_by_one_and_by_runs(self):
        for made in CLASSES:
            for source in (None, random.Random(3), random.Random(4)):
                desk = full_desk(made, source)
                self.assertEqual([len(desk), desk.version, len(desk.edits())], [60, 60, 60])
                self.assertEqual(len(list(desk.history())), 61)
                self.assertEqual(str(desk), "7 nodes, 60 edits")
                self.assertEqual(desk.tree(version=60), desk.tree())
                self.check_all_methods(desk)

    def check_all_methods(self, desk):
        for value in ("", "ll", "lll", "x", 5, None, ["l"]):
            for name in ("cut", "turn"):
                self.check_refused(desk, TooManyEdits, None, None, name, value)
            for other in ("a", "A", None):
                for name in ("put", "label"):
                    self.check_refused(desk, TooManyEdits, None, None, name, value, other)
        self.check_raises(BadEdits, None, None, desk.run, 5)
        self.check_raises(BadEdits, None, None, desk.run, AGAIN * 21)
        self.check_raises(BadEdit, "index", 1, desk.run, AGAIN + [5])
        self.check_raises(Rejected, "index", 0, desk.run, AGAIN)
        self.check_raises(Rejected, "index", 0, desk.run, [("cut", "no"), ("cut", "")], on_step=self.fail)
        self.assertEqual(desk.run([], on_step=self.fail), 60)
        self.assertEqual(desk.undo(), 59)
        self.assertEqual(desk.cut("ll"), 60)
        self.check_refused(desk, TooManyEdits, None, None, "cut", "l")
        self.assertEqual([desk.undo(), desk.run(AGAIN), desk.undo(), desk.undo()], [59, 60, 59, 58])
        before = repr(shown(desk))
        self.check_raises(Rejected, "index", 2, desk.run, AGAIN * 3)
        self.assertEqual(repr(shown(desk)), before)
        self.assertEqual([desk.run(AGAIN * 2), desk.version], [60, 60])

    def test_all_methods_are_busy_within_on_step(self):
        for made in CLASSES:
            desk, seen = full_desk(made), []
            desk.undo()

            def step(desk):
                seen.append(len(desk))
                for name, args in [("put", ("lll", "x")), ("cut", ("l",)), ("label", ("", "d")), ("turn", ("",)),
                                   ("undo", ()), ("run", ([],)), ("run", (5,)), ("run", (AGAIN,)), ("cut", (5,))]:
                    self.check_raises(Busy, None, None, getattr(desk, name), *args)

            self.assertEqual(desk.run(AGAIN, on_step=step), 60)
            self.assertEqual(seen, [60])

    def test_on_step_sees_those_before_the_limit(self):
        for made in CLASSES:
            desk, seen = full_desk(made), []
            desk.undo()
            desk.undo()
            told = outcome(desk.run, AGAIN * 3, on_step=lambda desk: seen.append(desk.version))
            self.assertEqual([told, seen, len(desk)], [("raises", "Rejected", 2), [59, 60], 58])

    def test_all_undone(self):
        for made in CLASSES:
            desk = full_desk(made, random.Random(5))
            self.assertEqual([desk.undo() for _ in range(60)], list(reversed(range(60))))
            self.assertEqual(without_log(desk), without_log(made.read(SMALL)))
            self.check_refused(desk, NothingToUndo, None, None, "undo")

    def test_search_desks_are_full_before_they_refuse(self):
        for made in SEARCHING:
            desk = full_desk(made)
            self.check_refused(desk, TooManyEdits, None, None, "label", "ll", "z")
            self.check_raises(Rejected, "index", 0, desk.run, [("label", "ll", "z")])
        self.assertEqual(type(full_desk(SearchDesk)), SearchDesk)


if __name__ == "__main__":
    unittest.main()
