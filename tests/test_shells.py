"""The shell: every command on desks of all classes, and lines that are no commands."""

import random
import unittest

from samples import CLASSES, LETTERS, LOGGED, SEARCHING, DeskCase, T, any_values, drawn_edit, full, labels_by_path
from samples import model_of, not_kinds, open_paths, outcome, paths_in_order, plain_count, plain_walk, plainly_a_letter
from samples import plainly_ascending, search_trees, shown, trees, trees_for
from treewalks.desks import Desk, LoggedDesk, LoggedSearchDesk, SearchDesk
from treewalks.fits import count_trees
from treewalks.search import each_order
from treewalks.shells import Shell
from treewalks.texts import tree_text

SMALL = "d(b(a,c),f(e,g))"
QUERIES = ("tree", "first", "between", "last", "level", "size", "depth", "trees", "orders")


def path_word(path):
    return path or "."


def line_of(edit):
    """The command that calls for the edit."""
    return " ".join([edit[0], path_word(edit[1]), *edit[2:]])


def plain_orders(tree):
    """The number of orders, each node behind its parent, or none: by taking away last letters."""
    if not plainly_ascending(plain_walk(tree, "between")):
        return "none"
    known = {}

    def orders(paths):
        if paths not in known:
            ends = [path for path in paths if not any(other != path and other.startswith(path) for other in paths)]
            known[paths] = sum(orders(paths - {path}) for path in ends) if len(paths) > 1 else 1
        return known[paths]

    return str(orders(frozenset(labels_by_path(tree))))


def plain_answers(tree):
    """What the queries answer, by second ways."""
    labels = labels_by_path(tree)
    answers = {kind: plain_walk(tree, kind) for kind in ("first", "between", "last", "level")}
    answers["size"] = str(len(labels))
    answers["depth"] = str(max(len(path) + 1 for path in labels))
    answers["orders"] = plain_orders(tree)
    return answers


def is_plain_path(word):
    return word == "." or (word != "" and word.strip("lr") == "")


def plainly_a_command(line):
    """Whether the line is one of the commands."""
    if line in QUERIES or line == "undo":
        return True
    words = line.split(" ")
    if words[0] in ("cut", "turn"):
        return len(words) == 2 and is_plain_path(words[1])
    return words[0] in ("put", "label") and len(words) == 3 and is_plain_path(words[1]) and plainly_a_letter(words[2])


class Commands(DeskCase):
    def check_line(self, desk, model, edit):
        """The command for the edit answers as the model says."""
        told = model.call(*edit)
        line = "undo" if edit == ("undo",) else line_of(edit)
        self.assertEqual(Shell(desk).execute(line), f"ok {told[1]}" if told[0] == "ok" else f"error {told[1]}", line)

    def test_every_edit_at_every_path(self):
        for made in CLASSES:
            for tree in trees_for(made)[::3]:
                paths = [*labels_by_path(tree), *open_paths(tree)]
                for path in paths + [paths[-1] + "l", paths[-1] + "rr", "l" * 500]:
                    for edit in [("put", path, "g"), ("cut", path), ("label", path, "g"), ("turn", path)]:
                        desk, model = made(tree), model_of(made, tree)
                        self.check_line(desk, model, edit)
                        self.check_shown(desk, model)

    def test_sessions(self):
        for at, made in enumerate(CLASSES * 4):
            source = random.Random(at)
            for tree in trees_for(made)[at % 5::5]:
                desk, model = made(tree), model_of(made, tree)
                for _ in range(25):
                    edit = drawn_edit(source, model.tree(), []) if source.randrange(3) else ("undo",)
                    self.check_line(desk, model, edit)
                self.check_shown(desk, model)

    def test_queries(self):
        for made in CLASSES:
            for tree in trees_for(made):
                desk = made(tree)
                shell = Shell(desk)
                before = repr(shown(desk))
                for word, answer in plain_answers(tree).items():
                    self.assertEqual(repr(self.asked(shell.execute, word)), repr(answer))
                self.assertEqual(shell.execute("tree"), tree_text(tree))
                told = count_trees(first=plain_walk(tree, "first"), last=plain_walk(tree, "last"))
                self.assertEqual(shell.execute("trees"), str(told))
                self.assertEqual(repr(shown(desk)), before)

    def test_trees_of_small_trees(self):
        for tree in trees():
            if len(labels_by_path(tree)) <= 6:
                rows = {kind: plain_walk(tree, kind) for kind in ("first", "last")}
                self.assertEqual(Shell(Desk(tree)).execute("trees"), str(plain_count(rows)))

    def test_trees_of_different_letters(self):
        for tree in search_trees():
            paths = set(labels_by_path(tree))
            single = [path for path in paths if (path + "l" in paths) != (path + "r" in paths)]
            self.assertEqual(Shell(SearchDesk(tree)).execute("trees"), str(2 ** len(single)))

    def test_orders_of_small_search_trees(self):
        for tree in search_trees():
            if len(labels_by_path(tree)) <= 6:
                self.assertEqual(Shell(Desk(tree)).execute("orders"), str(len(list(each_order(tree)))))

    def test_orders_of_other_trees(self):
        for text in ("a(b,-)", "b(-,a)", "a(a,-)", "c(b(-,d),e)", "b(a(-,c),-)"):
            self.assertEqual(Shell(Desk.read(text)).execute("orders"), "none")

    def test_answers_follow_the_edits(self):
        shell = Shell(Desk.read("a"))
        lines = ["put l b", "put r c", "put rl d", "tree", "level", "depth", "turn .", "tree", "label . x", "cut l",
                 "tree", "size", "undo", "tree", "put rrr e", "put rrl f", "tree", "put . a", "cut .", "cut rrrr"]
        told = ["ok 1", "ok 2", "ok 3", "a(b,c(d,-))", "abcd", "3", "ok 4", "a(c(-,d),b)", "ok 5", "ok 6",
                "x(-,b)", "2", "ok 5", "x(c(-,d),b)", "error NotOpen", "error NotOpen", "x(c(-,d),b)",
                "error NotOpen", "error LastNode", "error NoPath"]
        self.assertEqual([shell.execute(line) for line in lines], told)

    def test_every_letter(self):
        for letter in LETTERS:
            shell = Shell(Desk(T))
            self.assertEqual([shell.execute(f"put ll {letter}"), shell.execute(f"label . {letter}")], ["ok 1", "ok 2"])
            self.assertEqual(shell.execute("tree"), f"{letter}(b({letter},-),c(d,-))")

    def test_errors(self):
        self.assertEqual(Shell(Desk(full(12))).execute("put llll a"), "error TooLarge")
        for made in CLASSES:
            shell = Shell(made.read(SMALL))
            told = [shell.execute(line) for line in ("undo", "cut .", "cut lll", "put l a", "label rrr z", "turn llll")]
            names = ["NothingToUndo", "LastNode", "NoPath", "NotOpen", "NoPath", "NoPath"]
            self.assertEqual(told, [f"error {name}" for name in names])
            expected = "error NotSearch" if made in SEARCHING else "ok 1"
            self.assertEqual(shell.execute("turn ."), expected)

    def test_behind_sixty_edits(self):
        for made in CLASSES:
            desk = made.read(SMALL)
            shell = Shell(desk)
            told = [shell.execute("label . d") for _ in range(62)]
            self.assertEqual(told, [f"ok {at}" for at in range(1, 61)] + ["error TooManyEdits"] * 2)
            for line in ("put l a", "cut .", "cut llll", "label r z", "turn rrr", "put lll z", "turn ."):
                self.assertEqual(shell.execute(line), "error TooManyEdits")
            self.assertEqual([shell.execute("tree"), shell.execute("size")], [SMALL, "7"])
            self.assertEqual([shell.execute("undo"), shell.execute("cut ll"), shell.execute("cut r")],
                             ["ok 59", "ok 60", "error TooManyEdits"])

    def test_while_a_run_is_under_way(self):
        for made in CLASSES:
            desk, told = made.read(SMALL), []
            shell = Shell(desk)
            lines = ["put l a", "put lll z", "cut .", "cut l", "label . d", "label rrrr a", "turn .", "undo"]

            def step(passed):
                told.append([shell.execute(line) for line in lines])
                told.append([Shell(passed).execute(line) for line in ("tree", "first", "size", "orders", "cut", 5)])

            desk.run([("cut", "l"), ("cut", "rl")], on_step=step)
            busy = ["error Busy"] * len(lines)
            unknown = ["unknown command"] * 2
            self.assertEqual(told, [busy, ["d(-,f(e,g))", "dfeg", "4", "2", *unknown],
                                    busy, ["d(-,f(-,g))", "dfg", "3", "1", *unknown]])
            self.assertEqual(shell.execute("undo"), "ok 1")


class TheVeryDesk(DeskCase):
    def test_the_desk_is_changed(self):
        for made in CLASSES:
            desk = made.read(SMALL)
            shell = Shell(desk)
            self.assertEqual(shell.execute("cut l"), "ok 1")
            self.assertEqual(desk.edits(), (("cut", "l"),))
            desk.undo()
            self.assertEqual(shell.execute("tree"), SMALL)
            if made in LOGGED:
                self.assertEqual(desk.log, (("cut", 1), ("undo", 0)))

    def test_two_shells_agree(self):
        for made in CLASSES:
            desk = made.read(SMALL)
            one, other = Shell(desk), Shell(desk)
            told = [one.execute("cut ll"), other.execute("cut rr"), one.execute("undo")]
            self.assertEqual(told, ["ok 1", "ok 2", "ok 1"])
            for word in QUERIES:
                self.assertEqual(one.execute(word), other.execute(word))
            beside = Shell(made.read(SMALL))
            self.assertEqual([beside.execute("tree"), one.execute("tree")], [SMALL, "d(b(-,c),f(e,g))"])

    def test_the_log_has_the_calls_only(self):
        desk = LoggedSearchDesk.read("b(a,c)")
        shell = Shell(desk)
        for line in ["put rr d", "cut rr", "label . b", "turn l", "undo", "cut .", "turn .", *QUERIES, "no", "cut"]:
            shell.execute(line)
        self.assertEqual(desk.log, (("put", 1), ("cut", 2), ("label", 3), ("turn", 4), ("undo", 3)))


class UnknownCommands(DeskCase):
    def check_unknown(self, desk, value):
        before = repr(shown(desk))
        self.assertEqual(self.asked(Shell(desk).execute, value), "unknown command", value)
        self.assertEqual(repr(shown(desk)), before)

    def desks(self):
        return [made.read(SMALL) for made in CLASSES]

    def test_any_values(self):
        values = not_kinds() + ["", " ", "\n", (), ("tree",), ["tree"], {"tree": 1}, b"tree", 5]
        for desk in self.desks():
            for value in values:
                if not isinstance(value, str) or not plainly_a_command(value):
                    self.check_unknown(desk, value)

    def test_other_words_spaces_and_line_feeds(self):
        lines = [
            "put", "put l", "put l a b", "put a l", "put l A", "put l aa", "put l ?", "put L a", "put lx a", "put  l a",
            "put l  a", " put l a", "put l a ", "put l a\n", "put\nl a", "put l\na", "put\tl a", "cut", "cut l l",
            "cut l a", "cut ..", "cut .l", "cut l.", "cut ''", "cut  ", "cut ", "cut -", "cut l ", "cut x", "label l",
            "label", "label a", "label . .", "label l l l", "turn", "turn . .", "turn t", "undo .", "undo ", " undo",
            "undo undo", "undo 1", "Undo", "TREE", "tree ", " tree", "tree .", "tree tree", "trees ", "tree\n",
            "\ntree", "size of", "walk first", "first first", "order", "orders .", "depth .", "run", "run put",
            "edits", "history", "version", "log", "read a", "is_edit", "len", "str", "unknown command", "put, l, a",
            "put(l,a)", "put '' a", "cut None", "put . aa", "label . 5",
        ]
        for desk in self.desks():
            for line in lines:
                self.assertFalse(plainly_a_command(line), line)
                self.check_unknown(desk, line)

    def test_commands_that_were_changed(self):
        source = random.Random(67)
        commands = [*QUERIES, "undo", "put lll a", "put . a", "cut l", "cut .", "label . d", "label rr z", "turn lr"]
        signs = "lr. abz\nA,put"
        for round_of in range(6000):
            line = source.choice(commands)
            for _ in range(source.randrange(1, 4)):
                line = self.changed_line(source, line, signs)
            made = CLASSES[round_of % 4]
            desk = made.read(SMALL)
            if plainly_a_command(line):
                self.assertNotEqual(Shell(desk).execute(line), "unknown command", line)
            else:
                self.check_unknown(desk, line)

    def changed_line(self, source, line, signs):
        at = source.randrange(len(line) + 1)
        sort = source.randrange(4)
        if sort == 0:
            return line[:at] + source.choice(signs) + line[at:]
        if sort == 1:
            return line[:at] + line[at + 1:]
        if sort == 2:
            return line[:at] + source.choice(signs) + line[at + 1:]
        other = source.randrange(len(line) + 1)
        low, high = sorted([at, other])
        return line[:low] + line[high:high + 1] + line[low + 1:high] + line[low:low + 1] + line[high + 1:]

    def test_words_that_are_no_paths_or_letters(self):
        desk = LoggedDesk.read(SMALL)
        for value in any_values():
            if isinstance(value, str):
                for line in (f"cut {value}", f"turn {value}", f"put {value} a", f"label . {value}", f"put lll {value}"):
                    if not plainly_a_command(line):
                        self.check_unknown(desk, line)

    def test_unknown_commands_within_a_run(self):
        desk, told = Desk.read(SMALL), []
        desk.run([("cut", "l")], on_step=lambda desk: told.append(Shell(desk).execute("cut")))
        self.assertEqual(told, ["unknown command"])


class AllTogether(DeskCase):
    def test_the_shell_does_what_the_methods_do(self):
        source = random.Random(71)
        for made in CLASSES:
            for tree in trees_for(made)[::4]:
                desk, other = made(tree), made(tree)
                for _ in range(20):
                    edit = drawn_edit(source, desk.tree(), [])
                    told = outcome(getattr(other, edit[0]), *edit[1:])
                    answer = Shell(desk).execute(line_of(edit))
                    self.assertEqual(answer, f"ok {told[1]}" if told[0] == "ok" else f"error {told[1]}")
                self.assertEqual(repr(shown(desk)), repr(shown(other)))

    def test_walks_are_in_the_order_of_the_paths(self):
        for tree in trees()[::4]:
            labels = labels_by_path(tree)
            told = "".join(labels[path] for path in paths_in_order(tree, "level"))
            self.assertEqual(Shell(Desk(tree)).execute("level"), told)


if __name__ == "__main__":
    unittest.main()
