"""Search trees, certificates for their walks, and the orders in which they arise."""

import itertools
import math
import random
import unittest

from samples import (
    CHANGES, LETTERS, T, WalkCase, any_values, chain, changed_often, drawn, full, labels_by_path, plain_walk,
    plainly_a_tree, shapes, tree_from, trees, with_part,
)
from treewalks.errors import NoIndex, NoOrder, TooLarge, Twice
from treewalks.search import (
    count_orders, each_order, inserted, is_search_tree, order_at, order_index, search_certificate, search_holds,
    tree_of,
)
from treewalks.trees import mirrored


def searching(shape, letters):
    """The search tree of this shape with these letters."""
    rest = iter(sorted(letters))

    def named(part):
        if part is None:
            return None
        left = named(part[0])
        label = next(rest)
        return (left, label, named(part[2]))

    return named(shape)


def small_search_trees():
    """All search trees of one to five letters."""
    return [searching(shape, "bdkmz"[:size]) for size in range(1, 6) for shape in shapes(size)]


def search_trees():
    """Search trees of one to twelve letters."""
    source = random.Random(173)
    found = small_search_trees()
    for size in range(1, 13):
        letters = source.sample(LETTERS, size)
        found += [searching(drawn(source, size), letters) for _ in range(6)]
        found += [searching(chain(size, sides), letters) for sides in ("l", "r", "lr")]
        found.append(searching(full(size), letters))
    return found


def plain_order_tree(order):
    """The tree of the order, by the paths that the letters take."""
    labels = {}
    for letter in order:
        path = ""
        while path in labels:
            path += "l" if letter < labels[path] else "r"
        labels[path] = letter
    return tree_from(labels)


def orders():
    """Orders of one to twelve letters: all of up to four, and ascending, descending and other ones."""
    source = random.Random(179)
    found = ["".join(order) for size in range(1, 5) for order in itertools.permutations("cfqx"[:size])]
    for size in range(1, 13):
        letters = "".join(sorted(source.sample(LETTERS, size)))
        found += [letters, letters[::-1]]
        found += ["".join(source.sample(letters, size)) for _ in range(10)]
    return found + [plain_walk(tree, "first") for tree in search_trees()]


def plain_barriers(order):
    places = itertools.combinations(range(len(order)), 3)
    return [(p, q, r) for p, q, r in places if order[r] < order[p] < order[q]]


def plainly_a_search_tree(tree):
    walk = plain_walk(tree, "between")
    return list(walk) == sorted(set(walk))


def plainly_holds(order, value):
    if type(value) is not tuple or len(value) != 2 or type(value[0]) is not str:
        return False
    word, proof = value
    if word == "tree":
        return plainly_a_tree(proof) and plainly_a_search_tree(proof) and plain_walk(proof, "first") == order
    whole = type(proof) is tuple and all(type(place) is int for place in proof)
    return word == "barrier" and whole and proof in plain_barriers(order)


class Trees(WalkCase):
    def test_search_trees(self):
        for tree in search_trees():
            self.assertIs(self.asked(is_search_tree, tree), True)
            self.assertIs(is_search_tree(mirrored(tree)), len(labels_by_path(tree)) == 1)

    def test_all_trees(self):
        for tree in trees():
            self.assertIs(self.asked(is_search_tree, tree), plainly_a_search_tree(tree))

    def test_equal_labels(self):
        for tree in ((None, "a", (None, "a", None)), ((None, "a", None), "a", None), (T, "a", T)):
            self.assertIs(is_search_tree(tree), False)
        for size in range(2, 13):
            for shape in (chain(size, "l"), chain(size, "r"), full(size)):
                tree = searching(shape, LETTERS[:size])
                labels = labels_by_path(tree)
                for path, other in itertools.permutations(labels, 2):
                    self.assertIs(is_search_tree(tree_from({**labels, path: labels[other]})), False)

    def test_one_label_replaced(self):
        source = random.Random(181)
        for tree in search_trees():
            labels = labels_by_path(tree)
            for path in labels:
                other = tree_from({**labels, path: source.choice(LETTERS)})
                self.assertIs(is_search_tree(other), plainly_a_search_tree(other))

    def test_none_is_no_search_tree(self):
        self.assertIs(is_search_tree(None), False)


class Inserting(WalkCase):
    def test_every_letter(self):
        for tree in search_trees():
            labels = labels_by_path(tree)
            for letter in LETTERS:
                if letter in labels.values():
                    self.check_raises(Twice, "letter", letter, inserted, tree, letter)
                elif len(labels) == 12:
                    self.check_raises(TooLarge, "limit", 12, inserted, tree, letter)
                else:
                    expected = plain_order_tree(plain_walk(tree, "first") + letter)
                    self.assertEqual(self.asked(inserted, tree, letter), expected)

    def test_none(self):
        for letter in LETTERS:
            self.assertEqual(self.asked(inserted, None, letter), (None, letter, None))

    def test_twice_comes_ahead_of_too_large(self):
        for tree in search_trees():
            labels = labels_by_path(tree)
            if len(labels) == 12:
                for letter in labels.values():
                    self.check_raises(Twice, "letter", letter, inserted, tree, letter)

    def test_tree_of(self):
        for order in orders():
            self.assertEqual(self.asked(tree_of, order), plain_order_tree(order))
            self.assertTrue(is_search_tree(tree_of(order)))

    def test_the_first_walk_leads_back(self):
        for tree in search_trees():
            self.assertEqual(tree_of(plain_walk(tree, "first")), tree)
            self.assertEqual(tree_of(plain_walk(tree, "level")), tree)

    def test_ascending_and_descending(self):
        for size in range(1, 13):
            self.assertEqual(tree_of(LETTERS[:size]), chain(size, "r"))
            backward = LETTERS[:size][::-1]
            self.assertEqual(plain_walk(tree_of(backward), "last"), LETTERS[:size])


class Certificates(WalkCase):
    def check(self, order, value):
        expected = plainly_holds(order, value)
        self.assertIs(self.asked(search_holds, order, value), expected, (order, value))
        return expected

    def test_a_tree_or_a_barrier(self):
        for order in orders():
            word, proof = self.asked(search_certificate, order)
            barriers = plain_barriers(order)
            self.assertEqual(word, "barrier" if barriers else "tree")
            if barriers:
                self.assertIn(proof, barriers)
            else:
                self.assertTrue(plainly_a_search_tree(proof))
                self.assertEqual(plain_walk(proof, "first"), order)
            self.assertTrue(self.check(order, (word, proof)))

    def test_no_barrier_exactly_for_walks(self):
        for size in range(1, 6):
            walks = {plain_walk(searching(shape, LETTERS[:size]), "first") for shape in shapes(size)}
            for order in itertools.permutations(LETTERS[:size]):
                word = search_certificate("".join(order))[0]
                self.assertEqual(word == "tree", "".join(order) in walks)

    def test_all_places(self):
        for order in orders()[::3]:
            barriers = plain_barriers(order)
            for places in itertools.product(range(-1, min(len(order), 6) + 2), repeat=3):
                self.assertIs(search_holds(order, ("barrier", places)), places in barriers)
            for places in barriers:
                self.assertIs(search_holds(order, ("barrier", places)), True)
                for wrong in (places[::-1], list(places), places[:2], places + (len(order),), places[1:] + places[:1]):
                    self.assertFalse(self.check(order, ("barrier", wrong)))

    def test_bools_are_no_places(self):
        self.assertIs(search_holds("bca", ("barrier", (0, 1, 2))), True)
        for places in ((False, 1, 2), (0, True, 2), (False, True, 2)):
            self.assertIs(search_holds("bca", ("barrier", places)), False)
        self.assertIs(search_holds("zbca", ("barrier", (1, 2, 3))), True)
        self.assertIs(search_holds("zbca", ("barrier", (True, 2, 3))), False)

    def test_other_trees(self):
        found = orders()
        for order, other in zip(found, found[1:]):
            for value in (("tree", tree_of(other)), ("tree", tree_of(order)), search_certificate(other)):
                self.check(order, value)
            # Trees with this walk that are no search trees.
            for tree in (chain(len(order), "l"), chain(len(order), "r"), full(len(order))):
                letters = dict(zip(sorted(labels_by_path(tree)), order))
                self.check(order, ("tree", tree_from(letters)))

    def test_words_and_forms(self):
        for order in orders()[::4]:
            word, proof = search_certificate(order)
            other = "barrier" if word == "tree" else "tree"
            forms = [[word, proof], (word,), (word, proof, proof), (proof, word), proof]
            for value in [(other, proof), (word + "s", proof), *forms]:
                self.assertFalse(self.check(order, value))

    def test_parts_changed(self):
        source = random.Random(191)
        accepted = 0
        gentle = [with_part(part) for part in (0, 1, 2, 3, 4, 5, True, False)]
        for order in orders():
            for _ in range(16):
                told = search_certificate(order)
                value = changed_often(source, told, CHANGES + 12 * gentle, source.randrange(1, 3))
                accepted += self.check(order, value)
        self.assertGreater(accepted, 20)

    def test_any_values(self):
        for order in ("a", "bca", "bac", "bcdefghijkla"):
            for value in any_values():
                forms = [value, (value,), (value,) * 3, (0, 1, value), (value, 1, 2), (0, value, 2), (0, 1, 2, value)]
                for form in forms:
                    self.check(order, form)
                    for word in ("tree", "barrier", "walk", ""):
                        self.check(order, (word, form))


def plain_orders(tree):
    """All orders of the tree in the order of texts."""
    letters = plain_walk(tree, "between")
    found = ["".join(order) for order in itertools.permutations(letters)]
    return sorted(order for order in found if plain_order_tree(order) == tree)


def plain_order_count(tree):
    """The number of all orders divided by the sizes of the trees at all nodes."""
    labels = labels_by_path(tree)
    sizes = [len([other for other in labels if other.startswith(path)]) for path in labels]
    return math.factorial(len(labels)) // math.prod(sizes)


class Orders(WalkCase):
    def test_all_orders_of_small_trees(self):
        for tree in small_search_trees():
            expected = plain_orders(tree)
            self.assertEqual(repr(self.asked(count_orders, tree)), repr(len(expected)))
            self.assertEqual(list(each_order(tree)), expected)
            for index, order in enumerate(expected):
                self.assertEqual(self.asked(order_at, tree, index), order)
                self.assertEqual(repr(self.asked(order_index, tree, order)), repr(index))

    def test_every_other_text_of_small_trees(self):
        for tree in small_search_trees():
            expected = plain_orders(tree)
            letters = plain_walk(tree, "between")
            for order in map("".join, itertools.permutations(letters)):
                if order not in expected:
                    self.check_raises(NoOrder, None, None, order_index, tree, order)

    def test_counts(self):
        for tree in search_trees():
            self.assertEqual(self.asked(count_orders, tree), plain_order_count(tree))
            self.assertEqual(count_orders(mirrored_search(tree)), plain_order_count(tree))

    def test_the_numbers_add_up(self):
        for size in range(1, 9):
            total = sum(count_orders(searching(shape, LETTERS[3:3 + size])) for shape in shapes(size))
            self.assertEqual(total, math.factorial(size))

    def test_indexes_of_all_trees(self):
        source = random.Random(193)
        for tree in search_trees():
            count = count_orders(tree)
            indexes = sorted({0, count - 1, count // 2, *[source.randrange(count) for _ in range(6)]})
            found = [self.asked(order_at, tree, index) for index in indexes]
            self.assertEqual(found, sorted(set(found)))
            for index, order in zip(indexes, found):
                self.assertEqual(plain_order_tree(order), tree)
                self.assertEqual(repr(self.asked(order_index, tree, order)), repr(index))
            for index in (-1, -count, count, count + 1, 10 ** 59, -(10 ** 59)):
                self.check_raises(NoIndex, "value", index, order_at, tree, index)

    def test_neighbours_in_the_order_of_texts(self):
        for tree in search_trees():
            if count_orders(tree) <= 400:
                found = [order_at(tree, index) for index in range(count_orders(tree))]
                self.assertEqual(found, sorted(set(found)))

    def test_orders_that_arise(self):
        for order in orders():
            tree = plain_order_tree(order)
            self.assertEqual(order_at(tree, order_index(tree, order)), order)

    def test_other_values_are_no_indexes(self):
        for tree in (tree_of("a"), tree_of("bac"), tree_of("hdlbfjnaceik")):
            count = plain_order_count(tree)
            for value in any_values():
                if not (type(value) is int and 0 <= value < count):
                    self.check_raises(NoIndex, "value", value, order_at, tree, value)

    def test_other_values_are_no_orders(self):
        source = random.Random(197)
        for tree in search_trees():
            order = plain_walk(tree, "first")
            at = source.randrange(len(order))
            values = [order[:at] + order[at + 1:], order + order[at], order[:at] + "?" + order[at + 1:], order.upper()]
            values += [list(order), tuple(order), (order,), "", order + "\n", " " + order, order[:at + 1] + order[at:]]
            values += [order[::-1], order[1:] + order[0], "".join(source.sample(order, len(order))), tree]
            values += [order[:at] + source.choice(LETTERS) + order[at + 1:], order[-1] * len(order)]
            for value in values:
                if type(value) is str and value and sorted(value) == sorted(order) and plain_order_tree(value) == tree:
                    self.assertEqual(order_at(tree, order_index(tree, value)), value)
                else:
                    self.check_raises(NoOrder, None, None, order_index, tree, value)

    def test_any_values_are_no_orders(self):
        for tree in (tree_of("b"), tree_of("bac"), tree_of("hdlbfjnaceik")):
            for value in any_values():
                self.check_raises(NoOrder, None, None, order_index, tree, value)


def mirrored_search(tree):
    """The search tree of the mirrored shape with the same letters."""
    return searching(mirrored(tree), plain_walk(tree, "between"))


class EachOrder(WalkCase):
    def test_from_every_start(self):
        for tree in small_search_trees():
            expected = plain_orders(tree)
            for start in range(len(expected) + 2):
                self.assertEqual(list(each_order(tree, start=start)), expected[start:])
            for start in (10 ** 20, 10 ** 60 - 1):
                self.assertEqual(list(each_order(tree, start=start)), [])

    def test_the_first_ones_from_drawn_starts(self):
        source = random.Random(199)
        for tree in search_trees():
            count = count_orders(tree)
            for start in (0, count - 1, count, count + 5, source.randrange(count), source.randrange(count)):
                some = list(itertools.islice(each_order(tree, start=start), 6))
                self.assertEqual(some, [order_at(tree, index) for index in range(start, min(count, start + 6))])

    def test_it_is_a_generator_that_can_be_left_early(self):
        tree = tree_of("hdlbfjnaceik")
        found = each_order(tree, start=70000)
        self.assertIs(iter(found), found)
        self.assertEqual([next(found), next(found)], [order_at(tree, 70000), order_at(tree, 70001)])
        found.close()
        self.assertEqual(next(each_order(tree)), order_at(tree, 0))

    def test_within_one_another(self):
        tree, other = tree_of("dbfaceg"), tree_of("bac")
        one, two = list(each_order(tree)), list(each_order(other))
        self.assertEqual(len(one), 80)
        both = [(text, more) for text in each_order(tree) for more in each_order(other)]
        self.assertEqual(both, list(itertools.product(one, two)))
        same = [(text, more) for text in each_order(tree, start=70) for more in each_order(tree, start=75)]
        self.assertEqual(same, list(itertools.product(one[70:], one[75:])))
        self.assertEqual(list(zip(each_order(tree), each_order(tree, start=3))), list(zip(one, one[3:])))

    def test_all_orders_of_a_large_tree(self):
        tree = searching(full(10), LETTERS[:10])
        found = list(each_order(tree))
        self.assertEqual(len(found), plain_order_count(tree))
        self.assertEqual(found, sorted(set(found)))
        self.assertTrue(all(plain_order_tree(order) == tree for order in found[::10]))

    def test_start_is_passed_by_keyword(self):
        with self.assertRaises(TypeError):
            each_order(tree_of("bac"), 1)


if __name__ == "__main__":
    unittest.main()
