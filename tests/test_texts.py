"""Texts of trees: written, read back, and refused at the right place."""

import itertools
import random
import unittest

from samples import CHANGES, LETTERS, WalkCase, any_values, chain, changed_often, drawn, full, labelled
from samples import labels_by_path, outcome, shapes, trees
from treewalks.errors import BadText
from treewalks.texts import parse_tree, tree_text


def plain_text(tree):
    """The text of the tree, told by the labels at all paths."""
    labels = labels_by_path(tree)

    def text_at(path):
        if path not in labels:
            return "-"
        left, right = text_at(path + "l"), text_at(path + "r")
        return labels[path] if (left, right) == ("-", "-") else f"{labels[path]}({left},{right})"

    return text_at("")


def ways_on(stack, sign):
    """What may be waited for behind the sign, if the stack tells what is waited for: T a tree, S a tree or -."""
    top, rest = stack[0], stack[1:]
    if top in "TS" and sign in list(LETTERS):
        return [rest, "(T,S)" + rest, "(-,T)" + rest]
    return [rest] if sign == top or (top, sign) == ("S", "-") else []


def wrong_index(text):
    """The index of BadText, or None for the text of a tree: by keeping all that may be waited for."""
    stacks, labels = {"T"}, 0
    for at, sign in enumerate(text):
        labels += sign in list(LETTERS)
        further = [more for stack in stacks if stack for more in ways_on(stack, sign)]
        # What is waited for needs a node for each T at least.
        stacks = {stack for stack in further if labels + stack.count("T") <= 12}
        if not stacks:
            return at
    return None if "" in stacks else len(text)


SIGNS = "abz(),-" + "A >0{`\n.l"


def inserted(source, text):
    at = source.randrange(len(text) + 1)
    return text[:at] + source.choice(SIGNS) + text[at:]


def removed(source, text):
    at = source.randrange(len(text) + 1)
    return text[:at] + text[at + 1:]


def replaced(source, text):
    at = source.randrange(len(text) + 1)
    return text[:at] + source.choice(SIGNS) + text[at + 1:]


def exchanged(source, text):
    if len(text) < 2:
        return text
    one, other = sorted(source.sample(range(len(text)), 2))
    return text[:one] + text[other] + text[one + 1:other] + text[one] + text[other + 1:]


def cut_off(source, text):
    return text[:source.randrange(len(text) + 1)]


def continued(source, text):
    return text + "".join(source.choice(SIGNS) for _ in range(source.randrange(1, 4)))


TEXT_CHANGES = [inserted, removed, replaced, exchanged, cut_off, continued]


class Texts(WalkCase):
    def check_text(self, text):
        """The text is read as it should be, or refused at the right place."""
        index = wrong_index(text)
        if index is None:
            self.assertEqual(plain_text(self.asked(parse_tree, text)), text)
            self.assertEqual(tree_text(parse_tree(text)), text)
        else:
            told = outcome(parse_tree, text)
            self.assertEqual(repr(told), repr(("raises", "BadText", index)), text)

    def test_text_of_trees(self):
        for tree in trees():
            self.assertEqual(self.asked(tree_text, tree), plain_text(tree))

    def test_read_back(self):
        for tree in trees():
            self.assertEqual(self.asked(parse_tree, plain_text(tree)), tree)
            self.assertEqual(parse_tree(tree_text(tree)), tree)

    def test_same_text_exactly_if_equal(self):
        many = {}
        for size in range(1, 6):
            for shape in shapes(size):
                for letters in {"abcde"[:size], "aaaaa"[:size], "babab"[:size], "zyzzy"[:size]}:
                    tree = labelled(shape, letters)
                    self.assertEqual(many.setdefault(tree_text(tree), tree), tree)
        self.assertEqual(len(set(many.values())), len(many))
        self.assertEqual(len(many), sum(count * 4 for count in (1, 2, 5, 14, 42)) - 1)

    def test_each_label(self):
        for letter in LETTERS:
            self.assertEqual(tree_text((None, letter, (None, "m", None))), f"{letter}(-,m)")
            self.assertEqual(parse_tree(f"m({letter},-)"), ((None, letter, None), "m", None))

    def test_each_beginning(self):
        for tree in trees():
            text = plain_text(tree)
            for at in range(len(text)):
                told = outcome(parse_tree, text[:at])
                if told[0] == "ok":
                    self.assertEqual(tree_text(told[1]), text[:at])
                else:
                    self.assertEqual(told, ("raises", "BadText", at))
                self.check_text(text[:at])

    def test_all_short_texts(self):
        for size in range(6):
            for signs in itertools.product("az(),-", repeat=size):
                self.check_text("".join(signs))
        for signs in itertools.product("a(,-)", repeat=6):
            self.check_text("".join(signs))

    def test_texts_that_were_changed(self):
        source = random.Random(31)
        for tree in trees():
            for times in (1, 2, 3) * 4:
                for change in TEXT_CHANGES:
                    text = change(source, plain_text(tree))
                    for _ in range(times - 1):
                        text = source.choice(TEXT_CHANGES)(source, text)
                    self.check_text(text)

    def test_every_single_change_of_some(self):
        for tree in (full(3), chain(12, "l"), chain(12, "rl"), full(12)):
            text = plain_text(tree)
            for at in range(len(text) + 1):
                self.check_text(text[:at] + text[at + 1:])
                self.check_text(text[:at] + text[at + 1:at + 2] + text[at:at + 1] + text[at + 2:])
                for sign in SIGNS:
                    self.check_text(text[:at] + sign + text[at:])
                    self.check_text(text[:at] + sign + text[at + 1:])

    def test_twelve_and_thirteen_labels(self):
        source = random.Random(37)
        for size in (11, 12, 13, 14, 40):
            larger = [chain(size, "l"), chain(size, "r"), chain(size, "lr"), full(size)]
            for tree in larger + [drawn(source, size) for _ in range(40)]:
                text = plain_text(tree)
                self.assertEqual(wrong_index(text) is None, size <= 12)
                self.check_text(text)

    def test_the_number_of_nodes_is_seen_early(self):
        lefts = "a(" * 11 + "a" + ",-)" * 11
        self.assertEqual(parse_tree(lefts), labelled(chain(12, "l"), "a" * 12))
        self.check_raises(BadText, "index", 23, parse_tree, "a(" * 12)
        self.check_raises(BadText, "index", 23, parse_tree, "a(" * 12 + "-,a)")
        self.check_raises(BadText, "index", 24, parse_tree, lefts.replace(",-", ",a"))
        self.check_raises(BadText, "index", 45, parse_tree, "a(-," * 12)
        self.check_raises(BadText, "index", 44, parse_tree, "a(-," * 11)

    def test_long_texts(self):
        for text in ("a" * 2000, "a(" * 1000, "(" * 2000, "a(-," * 500, "-" * 2000, " " * 2000, "a(a,a)" * 300):
            self.check_text(text)

    def test_other_values(self):
        for value in any_values():
            if isinstance(value, str):
                self.check_text(value)
            else:
                self.check_raises(BadText, "index", None, parse_tree, value)

    def test_texts_inside_other_values(self):
        source = random.Random(41)
        for value in [("a",), ["a(b,-)"], {"a": "a"}, (None, "a", None), b"a", ("a", "b")]:
            self.check_raises(BadText, "index", None, parse_tree, value)
            self.check_raises(BadText, "index", None, parse_tree, changed_often(source, (value, "a"), CHANGES, 2))


if __name__ == "__main__":
    unittest.main()
