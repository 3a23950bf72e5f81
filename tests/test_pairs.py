"""Pairs: which trees they belong to, or why there is none."""

import itertools
import random
import unittest

from samples import (
    CHANGES, LETTERS, T, WalkCase, any_values, chain, changed_often, drawn, full, labelled, labels_by_path, plain_walk,
    plainly_a_tree, shapes, trees, with_part,
)
from treewalks.errors import BadLefts, NoTree
from treewalks.fits import count_trees
from treewalks.pairs import (
    count_pair_trees, each_pair_tree, is_pair, pair_certificate, pair_holds, pair_of, pair_tree, single_letters,
)


def plainly_a_pair(value):
    if type(value) is not tuple or len(value) != 2 or any(type(text) is not str for text in value):
        return False
    first, last = value
    return 1 <= len(first) <= 12 and set(first) <= set(LETTERS) and sorted(first) == sorted(last) == sorted(set(first))


def small_pairs():
    """All pairs of one to four letters with a first text in the order of letters, and some others."""
    source = random.Random(137)
    found = []
    for size in range(1, 5):
        for last in itertools.permutations(LETTERS[:size]):
            pair = (LETTERS[:size], "".join(last))
            found += [pair] + [renamed(source, pair) for _ in range(3)]
    return found


def five_letter_pairs():
    """All pairs of five letters, but for the names of these."""
    source = random.Random(167)
    found = [("abcde", "".join(last)) for last in itertools.permutations("abcde")]
    return found + [renamed(source, pair) for pair in found]


def renamed(source, pair):
    """The pair with other letters, in any order."""
    names = source.sample(LETTERS, len(pair[0]))
    return tuple("".join(names[pair[0].index(letter)] for letter in text) for text in pair)


def drawn_pair(source, size):
    """A pair of a tree, or something near to one."""
    tree = labelled(drawn(source, size), source.sample(LETTERS, size))
    first, last = plain_walk(tree, "first"), plain_walk(tree, "last")
    for _ in range(source.choice([0, 0, 1, 2])):
        one, other = source.randrange(size), source.randrange(size)
        signs = list(last)
        signs[one], signs[other] = signs[other], signs[one]
        last = "".join(signs)
    return (first, last)


def crowded_pair(source, size):
    """The walks of something like a tree whose nodes may have any number of children."""
    letters = source.sample(LETTERS, size)
    below = {letter: [] for letter in letters}
    for at in range(1, size):
        below[letters[source.randrange(max(0, at - 3), at)]].append(letters[at])

    def told(letter, before):
        inside = "".join(told(child, before) for child in below[letter])
        return letter + inside if before else inside + letter

    return (told(letters[0], True), told(letters[0], False))


def large_pairs():
    source = random.Random(139)
    found = []
    for size in range(1, 13):
        found += [drawn_pair(source, size) for _ in range(12)] + [crowded_pair(source, size) for _ in range(6)]
        first = "".join(source.sample(LETTERS, size))
        found += [(first, first), (first, first[::-1]), (first, "".join(source.sample(first, size)))]
        found.append((first, first[1:] + first[0]))
    return found


def is_below(pair, letter, other):
    first, last = pair
    return first.find(letter) > first.find(other) and last.find(letter) < last.find(other)


def plain_triples(pair):
    first, last = pair
    combined = itertools.combinations(first, 3)
    return [(x, y, z) for x, y, z in combined if last.find(z) < last.find(x) < last.find(y)]


def plain_crowds(pair):
    found = []
    for letter in pair[0]:
        lower = [other for other in pair[0] if is_below(pair, other, letter)]
        children = [one for one in lower if not any(is_below(pair, one, other) for other in lower)]
        found += [(letter, *some) for some in itertools.combinations(children, 3)]
    return found


def plain_trees_of(pair):
    """All trees to which the pair belongs, shape by shape."""
    found = [labelled(shape, pair[0]) for shape in shapes(len(pair[0]))]
    return [tree for tree in found if plain_walk(tree, "last") == pair[1]]


def plainly_belongs(pair):
    return pair[0][0] == pair[1][-1] and not plain_triples(pair) and not plain_crowds(pair)


def plain_pair(tree):
    return (plain_walk(tree, "first"), plain_walk(tree, "last"))


def plain_singles(tree):
    """The letters of the nodes with exactly one child, in the order of first."""
    if tree is None:
        return ""
    left, label, right = tree
    return (label if (left is None) != (right is None) else "") + plain_singles(left) + plain_singles(right)


def plain_lefts(tree):
    """Those whose one child is on the left."""
    if tree is None:
        return ""
    left, label, right = tree
    own = label if left is not None and right is None else ""
    return own + plain_lefts(left) + plain_lefts(right)


def plainly_holds(pair, value):
    if type(value) is not tuple or len(value) != 2 or type(value[0]) is not str:
        return False
    word, proof = value
    if word == "tree":
        return plainly_a_tree(proof) and plain_pair(proof) == pair
    if word == "root":
        return type(proof) is str and proof == pair[0][0] and pair[0][0] != pair[1][-1]
    return (word == "triple" and proof in plain_triples(pair)) or (word == "crowd" and proof in plain_crowds(pair))


class IsPair(WalkCase):
    def check(self, value):
        expected = plainly_a_pair(value)
        self.assertIs(self.asked(is_pair, value), expected, value)
        return expected

    def test_pairs(self):
        for pair in small_pairs() + five_letter_pairs() + large_pairs():
            self.assertTrue(self.check(pair))

    def test_any_values(self):
        for value in any_values():
            for form in (value, (value, value), ("a", value), (value, "a"), [value, value], ("ab", value)):
                self.check(form)

    def test_letters_replaced_removed_and_repeated(self):
        source = random.Random(149)
        for pair in large_pairs():
            for which in (0, 1):
                text = pair[which]
                at = source.randrange(len(text))
                signs = [source.choice(LETTERS), source.choice(text), text[at] * 2]
                for sign in signs + ["A", "?", " ", "\n", "1", "", "ab"]:
                    changed_text = text[:at] + sign + text[at + 1:]
                    self.check((changed_text, pair[1]) if which == 0 else (pair[0], changed_text))
                    self.check((changed_text, changed_text[::-1]))

    def test_other_forms(self):
        for pair in large_pairs()[::5]:
            first, last = pair
            for value in (list(pair), (first,), (first, last, first), first, (pair, pair), (list(first), list(last))):
                self.assertFalse(self.check(value))
            self.assertFalse(self.check((first.upper(), last.upper())))
            self.assertFalse(self.check((tuple(first), tuple(last))))
            self.assertFalse(self.check({"first": first, "last": last}))

    def test_sizes(self):
        for size in range(27):
            self.assertEqual(self.check((LETTERS[:size], LETTERS[:size][::-1])), 1 <= size <= 12)
        self.assertFalse(self.check(("", "")))
        self.assertFalse(self.check(("a" * 12, "a" * 12)))
        self.assertFalse(self.check(("aab", "aba")))

    def test_parts_changed(self):
        source = random.Random(151)
        for pair in small_pairs() + large_pairs():
            self.check(changed_often(source, pair, CHANGES, 1))

    def test_pair_of(self):
        for tree in trees():
            self.assertEqual(repr(self.asked(pair_of, tree)), repr(plain_pair(tree)))
            letters = plain_walk(tree, "first")
            self.assertIs(is_pair(pair_of(tree)), len(set(letters)) == len(letters))


class Certificates(WalkCase):
    def check(self, pair, value):
        expected = plainly_holds(pair, value)
        self.assertIs(self.asked(pair_holds, pair, value), expected, (pair, value))
        return expected

    def test_each_certificate_is_the_one_that_comes_first(self):
        found = {}
        for pair in small_pairs() + five_letter_pairs() + large_pairs():
            word, proof = self.asked(pair_certificate, pair)
            wrong = pair[0][0] != pair[1][-1]
            triples, crowds = plain_triples(pair), plain_crowds(pair)
            found.setdefault((word, bool(triples), bool(crowds)), pair)
            if wrong:
                self.assertEqual((word, proof), ("root", pair[0][0]))
            elif triples:
                self.assertEqual(word, "triple")
                self.assertIn(proof, triples)
            elif crowds:
                self.assertEqual(word, "crowd")
                self.assertIn(proof, crowds)
            else:
                self.assertEqual(word, "tree")
                self.assertEqual(plain_pair(proof), pair)
                self.assertEqual(plain_lefts(proof), plain_singles(proof))
            self.assertTrue(self.check(pair, (word, proof)))
        # All that can be wrong at once was there.
        for kinds in (("root", True, True), ("root", False, False), ("triple", True, True), ("triple", True, False)):
            self.assertIn(kinds, found)
        self.assertIn(("crowd", False, True), found)
        self.assertIn(("tree", False, False), found)

    def test_no_tree_exactly_if_there_is_a_reason(self):
        for pair in small_pairs() + five_letter_pairs():
            self.assertEqual(bool(plain_trees_of(pair)), plainly_belongs(pair), pair)
            self.assertEqual(pair_certificate(pair)[0] == "tree", bool(plain_trees_of(pair)))

    def test_all_reasons_are_accepted_and_no_others(self):
        for pair in small_pairs()[::2] + five_letter_pairs()[::3]:
            for triple in itertools.product(pair[0], repeat=3):
                self.check(pair, ("triple", triple))
            for crowd in itertools.product(pair[0], repeat=4):
                self.assertIs(pair_holds(pair, ("crowd", crowd)), crowd in plain_crowds(pair))
            for letter in LETTERS:
                self.check(pair, ("root", letter))

    def test_all_reasons_of_large_pairs(self):
        # Reasons hold whatever else is wrong with the pair.
        for pair in large_pairs():
            for triple in plain_triples(pair):
                self.assertIs(pair_holds(pair, ("triple", triple)), True)
                self.assertIs(pair_holds(pair, ("triple", triple[::-1])), False)
                self.assertIs(pair_holds(pair, ("triple", list(triple))), False)
            for crowd in plain_crowds(pair):
                self.assertIs(pair_holds(pair, ("crowd", crowd)), True)
                letter, one, two, three = crowd
                for other in ((letter, two, one, three), (letter, one, one, three), (one, letter, two, three)):
                    self.assertIs(pair_holds(pair, ("crowd", other)), False)
                self.assertIs(pair_holds(pair, ("crowd", crowd[1:])), False)
                self.assertIs(pair_holds(pair, ("triple", crowd[1:])), crowd[1:] in plain_triples(pair))

    def test_all_trees_are_accepted_and_no_others(self):
        for pair in small_pairs()[::2] + five_letter_pairs()[::5]:
            expected = plain_trees_of(pair)
            for shape in shapes(len(pair[0])):
                tree = labelled(shape, pair[0])
                self.assertIs(pair_holds(pair, ("tree", tree)), tree in expected)

    def test_trees_of_other_pairs(self):
        pairs = [pair for pair in large_pairs() if plainly_belongs(pair)]
        for pair, other in zip(pairs, pairs[1:] + pairs[:1]):
            self.check(pair, pair_certificate(other))
            self.check(other, pair_certificate(pair))

    def test_parts_changed(self):
        source = random.Random(157)
        accepted = 0
        letters = [with_part(sign) for sign in "abcde"]
        for pair in small_pairs() + five_letter_pairs() + large_pairs():
            for _ in range(4):
                value = changed_often(source, pair_certificate(pair), CHANGES + 4 * letters, source.randrange(1, 3))
                accepted += self.check(pair, value)
        self.assertGreater(accepted, 20)

    def test_any_values(self):
        pairs = [("a", "a"), ("ab", "ab"), ("abcd", "dbca"), ("abcd", "bcda"), ("abc", "cba"), LONG_CHAIN]
        for pair in pairs:
            for value in any_values():
                self.check(pair, value)
                for word in ("tree", "root", "triple", "crowd", "none"):
                    for form in (value, (value,) * 3, (value,) * 4, ("b", "c", value), ("a", "b", "c", value)):
                        self.check(pair, (word, form))
            word, proof = pair_certificate(pair)
            for value in ([word, proof], (word,), (word, proof, proof), (proof, word), (word.upper(), proof), proof):
                self.assertFalse(self.check(pair, value))


LONG_CHAIN = (LETTERS[:12], LETTERS[:12][::-1])


def lefts_of(singles):
    """All texts that arise by leaving out letters, in the order of texts."""
    return sorted("".join(some) for many in range(len(singles) + 1) for some in itertools.combinations(singles, many))


class Lefts(WalkCase):
    def test_single_letters(self):
        for pair in small_pairs() + five_letter_pairs() + large_pairs():
            if plainly_belongs(pair):
                tree = pair_certificate(pair)[1]
                self.assertEqual(self.asked(single_letters, pair), plain_singles(tree))
            else:
                self.check_raises(NoTree, None, None, single_letters, pair)

    def test_every_choice_of_lefts(self):
        for pair in small_pairs() + five_letter_pairs() + large_pairs()[::3]:
            if plainly_belongs(pair):
                for lefts in lefts_of(single_letters(pair))[:200]:
                    tree = self.asked(pair_tree, pair, lefts)
                    self.assertEqual((plain_pair(tree), plain_lefts(tree)), (pair, lefts))

    def wrong_lefts(self, singles):
        """Values that are no lefts."""
        found = any_values() + [list(singles), tuple(singles), singles + singles, singles.upper(), singles + "?", " "]
        found += [singles[::-1], singles + "z", "z" + singles, singles + singles[:1], singles[:1] * 2, LETTERS, "yx"]
        return [value for value in found if not (type(value) is str and value in lefts_of(singles))]

    def test_bad_lefts(self):
        for pair in small_pairs()[::3] + [LONG_CHAIN, pair_of(full(12)), pair_of(T), ("abcdef", "cbedfa")]:
            if plainly_belongs(pair):
                singles = single_letters(pair)
                for value in self.wrong_lefts(singles):
                    self.check_raises(BadLefts, "lefts", value, pair_tree, pair, value)
                others = [letter for letter in pair[0] if letter not in singles]
                for letter in others:
                    self.check_raises(BadLefts, "lefts", letter, pair_tree, pair, letter)

    def test_no_tree_comes_first(self):
        for pair in small_pairs() + large_pairs():
            if not plainly_belongs(pair):
                for value in ("", pair[0], pair[0][0], None, 5, ["a"], "zz", ()):
                    self.check_raises(NoTree, None, None, pair_tree, pair, value)

    def test_parents_before_children(self):
        # In a chain the letters are those of the walk down, whatever their alphabetical order is.
        for letters in ("cab", "zyx", "abc", "mzbqa"):
            pair = (letters, letters[::-1])
            self.assertEqual(single_letters(pair), letters[:-1])
            self.assertEqual(plain_lefts(pair_tree(pair, letters[:-1])), letters[:-1])
            backward = letters[:-1][::-1]
            self.check_raises(BadLefts, "lefts", backward, pair_tree, pair, backward)


class Counts(WalkCase):
    def test_all_pairs_of_one_to_five_letters(self):
        for pair in small_pairs() + five_letter_pairs():
            expected = sorted(plain_trees_of(pair), key=plain_lefts)
            self.assertEqual(repr(self.asked(count_pair_trees, pair)), repr(len(expected)))
            self.assertEqual(list(each_pair_tree(pair)), expected)
            if expected:
                self.assertEqual(len(expected), 2 ** len(plain_singles(expected[0])))

    def test_count_trees_agrees(self):
        for pair in small_pairs() + five_letter_pairs() + large_pairs():
            self.assertEqual(count_pair_trees(pair), count_trees(first=pair[0], last=pair[1]))

    def test_in_the_order_of_lefts(self):
        for pair in large_pairs():
            if plainly_belongs(pair):
                found = list(each_pair_tree(pair))
                expected = lefts_of(single_letters(pair))
                self.assertEqual([plain_lefts(tree) for tree in found], expected)
                self.assertEqual(len(set(found)), count_pair_trees(pair))
                for lefts, tree in list(zip(expected, found))[::7]:
                    self.assertEqual(pair_tree(pair, lefts), tree)
            else:
                self.assertEqual((count_pair_trees(pair), list(each_pair_tree(pair))), (0, []))

    def test_it_is_a_generator_that_can_be_left_early(self):
        source = random.Random(163)
        for pair in (LONG_CHAIN, renamed(source, LONG_CHAIN), pair_of(chain(5, "lr")), pair_of(T)):
            whole = list(each_pair_tree(pair))
            found = each_pair_tree(pair)
            self.assertIs(iter(found), found)
            self.assertEqual(next(found), whole[0])
            self.assertEqual(list(itertools.islice(found, 3)), whole[1:4])
            found.close()
            self.assertEqual(list(each_pair_tree(pair)), whole)

    def test_two_do_not_affect_each_other(self):
        one, other = each_pair_tree(LONG_CHAIN), each_pair_tree(LONG_CHAIN)
        ahead = list(itertools.islice(one, 5))
        self.assertEqual(list(itertools.islice(other, 3)), ahead[:3])
        self.assertEqual(next(one), list(itertools.islice(each_pair_tree(LONG_CHAIN), 6))[5])
        self.assertEqual(next(other), ahead[3])
        small = pair_of(chain(3, "l"))
        whole = list(each_pair_tree(small))
        self.assertEqual([(a, b) for a in each_pair_tree(small) for b in each_pair_tree(small)],
                         list(itertools.product(whole, whole)))

    def test_chains(self):
        for size in range(1, 13):
            pair = (LETTERS[:size], LETTERS[:size][::-1])
            self.assertEqual(count_pair_trees(pair), 2 ** (size - 1))
            self.assertEqual(next(each_pair_tree(pair)), chain(size, "r"))

    def test_full_trees(self):
        for size in (1, 3, 5, 7, 9, 11):
            tree = full(size)
            self.assertEqual(list(each_pair_tree(pair_of(tree))), [tree])
            self.assertEqual(single_letters(pair_of(tree)), "")
            self.assertEqual(len(labels_by_path(tree)), size)


if __name__ == "__main__":
    unittest.main()
