"""Nests: which values are nests, and what is told about their nested trees."""

import itertools
import random
import sys
import unittest

from samples import (
    CHANGES, LETTERS, ODD_PARTS, SIGNS, WalkCase, any_values, chain, changed, changed_often, drawn, full,
    labels_by_path, open_paths, paths_in_order, plainly_a_tree, spots, tree_from, with_part,
)
from treewalks.errors import NoIndex, NoPlace, TooLarge
from treewalks.nests import (
    count_label, expand_nest, is_nest, label_in, nest_depth, nest_size, nth_label, other_place,
)
from treewalks.trees import depth_of, mirrored

KINDS = ("first", "between", "last")
ONE = (None, "a", None)
N = (((None, "b", None), ()), (((None, "c", None), "a", None), (("lr", 0), ("r", 0))))


def drawn_nest(source, entries, largest, share):
    """A nest of so many entries with trees of at most this size, and a share of their open paths linked."""
    found = []
    for at in range(entries):
        tree = drawn(source, source.randrange(1, largest + 1), source.choice(["ab", "abc", LETTERS]))
        paths = [path for path in sorted(open_paths(tree)) if at > 0 and source.random() < share]
        found.append((tree, tuple((path, source.randrange(at)) for path in paths)))
    return tuple(found)


def tower(tree, entries):
    """The nest in which each entry has the one before it at all open paths."""
    paths = sorted(open_paths(tree))
    return ((tree, ()),) + tuple((tree, tuple((path, at) for path in paths)) for at in range(entries - 1))


def plain_labels(nest):
    """The labels of the nested tree by their paths."""
    tree, links = nest[-1]
    labels = labels_by_path(tree)
    for path, index in links:
        labels.update({path + more: label for more, label in plain_labels(nest[:index + 1]).items()})
    return labels


def plain_sizes(nest):
    """The numbers of nodes of the nested trees of all entries."""
    sizes = []
    for tree, links in nest:
        sizes.append(len(labels_by_path(tree)) + sum(sizes[index] for path, index in links))
    return sizes


def small_nests():
    """Nests whose nested trees have at most 60 nodes."""
    source = random.Random(211)
    found = [((ONE, ()),), N, ((full(12), ()),), tower(ONE, 5), tower(chain(2, "l"), 3), ((full(12), ()), (ONE, ()))]
    while len(found) < 120:
        nest = drawn_nest(source, source.randrange(1, 7), source.choice([1, 2, 3, 6]), source.choice([0.2, 0.5, 1]))
        if plain_sizes(nest)[-1] <= 60:
            found.append(nest)
    return found


def large_nests():
    """Nests of up to twenty entries with trees of up to twelve nodes."""
    source = random.Random(223)
    found = [tower(full(12), 20), tower(ONE, 20), tower(chain(12, "lr"), 20), tower(chain(12, "l"), 20), thin_tower()]
    for entries in (2, 5, 11, 20):
        for largest in (1, 3, 12):
            found += [drawn_nest(source, entries, largest, share) for share in (0.3, 0.6, 1)]
    return found


def thin_tower():
    """The deepest nest: twenty chains, each at the end of the next one."""
    tree = chain(12, "l")
    return ((tree, ()),) + tuple((tree, (("l" * 12, at),)) for at in range(19))


def plainly_a_link(value, tree, at):
    if type(value) is not tuple or len(value) != 2:
        return False
    path, index = value
    return type(path) is str and path in open_paths(tree) and type(index) is int and 0 <= index < at


def plainly_an_entry(value, at):
    if type(value) is not tuple or len(value) != 2:
        return False
    tree, links = value
    if not plainly_a_tree(tree) or type(links) is not tuple:
        return False
    if not all(plainly_a_link(link, tree, at) for link in links):
        return False
    return list(links) == sorted(links) and len({path for path, index in links}) == len(links)


def plainly_a_nest(value):
    if type(value) is not tuple or not 1 <= len(value) <= 20:
        return False
    return all(plainly_an_entry(entry, at) for at, entry in enumerate(value))


class IsNest(WalkCase):
    def check(self, value):
        expected = plainly_a_nest(value)
        self.assertIs(self.asked(is_nest, value), expected, value)
        return expected

    def test_nests(self):
        for nest in small_nests() + large_nests():
            self.assertTrue(self.check(nest))

    def test_numbers_of_entries(self):
        for many in range(24):
            self.assertEqual(self.check(((ONE, ()),) * many), 1 <= many <= 20)
        for many in (19, 20, 21, 22):
            self.assertEqual(self.check(tower(full(12), many)), many <= 20)

    def test_twelve_nodes_and_more(self):
        for tree in (full(12), chain(12, "r"), full(13), chain(13, "lr")):
            fine = len(labels_by_path(tree)) == 12
            self.assertEqual(self.check(((tree, ()),)), fine)
            links = tuple((path, 0) for path in sorted(open_paths(tree)))
            self.assertEqual(self.check(((ONE, ()), (tree, links))), fine)
            self.assertEqual(self.check(((tree, ()), (ONE, ()))), fine)

    def test_links_at_the_root_at_nodes_and_behind_no_node(self):
        for tree in (ONE, chain(3, "lr"), full(5)):
            nodes = list(labels_by_path(tree))
            opens = open_paths(tree)
            for path in opens:
                self.assertTrue(self.check(((ONE, ()), (tree, ((path, 0),)))))
            for path in nodes + [path + side for path in opens for side in "lr"] + ["x", "L", " ", opens[0].upper()]:
                self.assertFalse(self.check(((ONE, ()), (tree, ((path, 0),)))))

    def test_links_twice_and_in_another_order(self):
        source = random.Random(227)
        for nest in small_nests() + large_nests():
            for at, (tree, links) in enumerate(nest):
                if links:
                    one = source.choice(links)
                    other = (one[0], source.randrange(at))
                    for wrong in (links + (one,), links + (other,), (other,) + links, tuple(sorted(links + (other,)))):
                        self.assertFalse(self.check(nest[:at] + ((tree, wrong),) + nest[at + 1:]))
                    mixed = tuple(source.sample(links, len(links)))
                    for some in (links[::-1], links[1:], links[1:] + links[:1], mixed):
                        self.check(nest[:at] + ((tree, some),) + nest[at + 1:])

    def test_indexes(self):
        tree = full(3)
        for at in range(1, 20):
            for index in (-1, 0, at - 1, at, at + 1, 19, 20, True, False, None, "0", (0,), [0], 10 ** 59, -(10 ** 59)):
                nest = ((ONE, ()),) * at + ((tree, (("ll", index),)),)
                self.assertEqual(self.check(nest), type(index) is int and 0 <= index < at)

    def test_the_first_entry_has_no_links(self):
        for index in (0, -1, 1, False):
            self.assertFalse(self.check(((ONE, (("l", index),)),)))
            self.assertFalse(self.check(((ONE, (("l", index),)), (ONE, ()))))

    def test_lists(self):
        for nest in small_nests()[:40]:
            self.assertFalse(self.check(list(nest)))
            self.assertFalse(self.check(tuple(list(entry) for entry in nest)))
            self.assertFalse(self.check(tuple((tree, list(links)) for tree, links in nest)))
            self.assertFalse(self.check(tuple((list(tree), links) for tree, links in nest)))
            self.assertFalse(self.check(nest[0]))
            self.assertFalse(self.check((nest,)))

    def test_any_values(self):
        for value in any_values():
            for form in (value, (value,), (value, value), ((ONE, value),), ((value, ()),)):
                self.check(form)
                self.check(((ONE, ()), (ONE, (form,))))
            for link in (("l", value), (value, 0), (value, value), ("l", 0, value), [value]):
                self.check(((ONE, ()), (ONE, (link,))))
                self.check(((ONE, ()), (ONE, (link, ("r", 0)))))

    def test_one_part_replaced(self):
        source = random.Random(229)
        for nest in small_nests() + large_nests()[::3]:
            for _ in range(12):
                way = source.choice(spots(nest)[1:])
                self.check(changed(nest, way, source.choice(CHANGES)))

    def test_every_part_of_a_small_nest(self):
        for way in spots(N)[1:]:
            for change in CHANGES:
                self.check(changed(N, way, change))

    def test_two_parts_replaced(self):
        source = random.Random(233)
        found = {True: 0, False: 0}
        gentle = [with_part(part) for part in (0, 1, 2, "l", "r", "ll", "lr", "q", ONE, (), None, (ONE, ()))]
        for nest in small_nests() * 30:
            found[self.check(changed_often(source, nest, CHANGES + 6 * gentle, 2))] += 1
        self.assertGreater(min(found.values()), 40)

    def test_odd_entries(self):
        for part in ODD_PARTS:
            for nest in ((part,), (part, (ONE, ())), ((ONE, ()), part), ((ONE, (), part),), ((ONE,),), ((ONE, part),)):
                self.check(nest)


class WrittenOut(WalkCase):
    """Nests of at most 60 nodes against their nested trees."""

    def test_sizes_labels_and_depths(self):
        for nest in small_nests():
            labels = plain_labels(nest)
            self.assertEqual(repr(self.asked(nest_size, nest)), repr(len(labels)))
            self.assertEqual(repr(self.asked(nest_depth, nest)), repr(1 + max(len(path) for path in labels)))
            for letter in LETTERS:
                self.assertEqual(self.asked(count_label, nest, letter), list(labels.values()).count(letter))

    def test_expand_nest(self):
        sizes = set()
        for nest in small_nests():
            labels = plain_labels(nest)
            sizes.add(len(labels))
            if len(labels) > 12:
                self.check_raises(TooLarge, "limit", 12, expand_nest, nest)
            else:
                tree = self.asked(expand_nest, nest)
                self.assertEqual(repr(tree), repr(tree_from(labels)))
                self.assertEqual(nest_depth(nest), depth_of(tree))
        self.assertTrue({12, 13} <= sizes)

    def test_the_very_limit(self):
        for size in range(1, 12):
            for more in (12 - size, 13 - size):
                nest = ((full(more), ()), (chain(size, "r"), (("r" * size, 0),)))
                if size + more > 12:
                    self.check_raises(TooLarge, "limit", 12, expand_nest, nest)
                else:
                    self.assertEqual(expand_nest(nest), tree_from(plain_labels(nest)))

    def test_labels_and_places(self):
        for nest in small_nests():
            labels = plain_labels(nest)
            tree = tree_from(labels)
            paths = {kind: paths_in_order(tree, kind) for kind in KINDS}
            places = {kind: {path: at for at, path in enumerate(paths[kind])} for kind in KINDS}
            for kind in KINDS:
                for place, path in enumerate(paths[kind]):
                    self.assertEqual(label_in(nest, kind, place), labels[path])
                    for other in KINDS:
                        self.assertEqual(other_place(nest, kind, place, other), places[other][path])

    def test_nth_label(self):
        for nest in small_nests():
            labels = plain_labels(nest)
            tree = tree_from(labels)
            for kind in KINDS:
                text = "".join(labels[path] for path in paths_in_order(tree, kind))
                for letter in sorted(set(text)) + ["q"]:
                    expected = [place for place, label in enumerate(text) if label == letter]
                    for index, place in enumerate(expected):
                        self.assertEqual(nth_label(nest, kind, letter, index), place)
                    for index in (-1, len(expected), len(expected) + 1):
                        self.check_raises(NoIndex, "value", index, nth_label, nest, kind, letter, index)

    def test_equal_calls(self):
        for nest in small_nests()[::6] + large_nests()[::6]:
            for kind, other in itertools.product(KINDS, repeat=2):
                self.asked(label_in, nest, kind, 0)
                self.asked(other_place, nest, kind, 0, other)
                self.asked(nth_label, nest, kind, label_in(nest, kind, 0), 0)


def items_of(entry, kind):
    """The labels of the entry's tree and, as numbers, the entries that are linked, in the order of the walk."""
    tree, links = entry
    items = {**labels_by_path(tree), **dict(links)}
    # All that hangs at a linked path stands where a node at this path would stand.
    return [items[path] for path in sorted(items, key=lambda path: path + SIGNS[kind])]


def plain_label_at(nest, kind, place):
    """The label at the place, entry by entry."""
    sizes = plain_sizes(nest)
    entry, rest = len(nest) - 1, place
    while True:
        for item in items_of(nest[entry], kind):
            size = 1 if isinstance(item, str) else sizes[item]
            if rest < size:
                break
            rest -= size
        if isinstance(item, str):
            return item
        entry = item


class EntryByEntry(WalkCase):
    """Nests that are too large to be written out."""

    def some_places(self, source, size):
        return sorted({0, size - 1, size // 2, *[source.randrange(size) for _ in range(6)]})

    def test_sizes(self):
        for nest in large_nests():
            sizes = plain_sizes(nest)
            for at in range(len(nest)):
                self.assertEqual(nest_size(nest[:at + 1]), sizes[at])
            self.assertEqual(nest_size(tower(full(12), 20)), 13 ** 20 - 1)

    def test_labels_and_depths(self):
        for nest in large_nests():
            counts, depths = [], []
            for tree, links in nest:
                labels = labels_by_path(tree)
                own = list(labels.values()).count("a")
                counts.append(own + sum(counts[index] for path, index in links))
                depths.append(max([1 + len(path) for path in labels] + [len(path) + depths[at] for path, at in links]))
            self.assertEqual(self.asked(count_label, nest, "a"), counts[-1])
            self.assertEqual(self.asked(nest_depth, nest), depths[-1])
        self.assertEqual(nest_depth(thin_tower()), 240)

    def test_label_in(self):
        source = random.Random(239)
        for nest in large_nests():
            for kind in KINDS:
                for place in self.some_places(source, nest_size(nest)):
                    self.assertEqual(self.asked(label_in, nest, kind, place), plain_label_at(nest, kind, place))

    def test_too_large(self):
        for nest in large_nests():
            if plain_sizes(nest)[-1] > 12:
                self.check_raises(TooLarge, "limit", 12, expand_nest, nest)
            else:
                self.assertEqual(expand_nest(nest), tree_from(plain_labels(nest)))

    def test_from_each_walk_to_each_other_and_back(self):
        source = random.Random(241)
        for nest in large_nests() + [mirrored_nest(nest) for nest in large_nests()]:
            size = nest_size(nest)
            for kind, other in itertools.product(KINDS, repeat=2):
                for place in self.some_places(source, size)[::3]:
                    found = self.asked(other_place, nest, kind, place, other)
                    self.assertIn(found, range(size))
                    self.assertEqual(label_in(nest, other, found), label_in(nest, kind, place))
                    self.assertEqual(other_place(nest, other, found, kind), place)
                    if kind == other:
                        self.assertEqual(found, place)

    def test_ancestors_and_descendants(self):
        # The root comes first of all and last of all, and its parts lie around it.
        for nest in large_nests():
            size = nest_size(nest)
            self.assertEqual(other_place(nest, "first", 0, "last"), size - 1)
            middle = other_place(nest, "first", 0, "between")
            if middle:
                self.assertEqual(other_place(nest, "first", 1, "last"), middle - 1)
            if middle < size - 1:
                self.assertEqual(other_place(nest, "last", size - 2, "first"), middle + 1)

    def test_the_numbers_of_letters_add_up(self):
        for nest in large_nests() + small_nests():
            self.assertEqual(sum(count_label(nest, letter) for letter in LETTERS), nest_size(nest))

    def test_nth_label(self):
        source = random.Random(251)
        for nest in large_nests():
            for kind in KINDS:
                for letter in source.sample(LETTERS, 2) + ["a"]:
                    count = count_label(nest, letter)
                    for index in (-1, count, count + 1, -count - 1):
                        self.check_raises(NoIndex, "value", index, nth_label, nest, kind, letter, index)
                    if count:
                        indexes = self.some_places(source, count)
                        places = [self.asked(nth_label, nest, kind, letter, index) for index in indexes]
                        self.assertEqual(places, sorted(set(places)))
                        self.assertTrue(all(label_in(nest, kind, place) == letter for place in places))

    def test_labels_one_after_another(self):
        # Between two nodes with the same label and neighbouring indexes there is no such label.
        nest = tower(full(12), 20)
        for kind in KINDS:
            count = count_label(nest, "a")
            for index in (0, count // 3, count - 2):
                one, other = nth_label(nest, kind, "a", index), nth_label(nest, kind, "a", index + 1)
                between = [label_in(nest, kind, place) for place in range(one, min(other, one + 200))]
                self.assertEqual(between.count("a"), 1)

    def test_deep_nests_need_no_deep_recursion(self):
        nest = thin_tower()
        limit = sys.getrecursionlimit()
        try:
            sys.setrecursionlimit(300)
            told = [label_in(nest, "last", 0), nth_label(nest, "last", "l", 0), other_place(nest, "first", 239, "last")]
            told += [nest_size(nest), nest_depth(nest)]
        finally:
            sys.setrecursionlimit(limit)
        self.assertEqual(told, ["l", 0, 0, 240, 240])


def mirrored_nest(nest):
    """The nest whose nested trees are mirrored."""
    table = str.maketrans("lr", "rl")
    turned = []
    for tree, links in nest:
        turned.append((mirrored(tree), tuple(sorted((path.translate(table), index) for path, index in links))))
    return tuple(turned)


class ChangedNests(WalkCase):
    TURNED = {"first": "last", "between": "between", "last": "first"}

    def test_mirrored(self):
        source = random.Random(257)
        for nest in small_nests()[::3] + large_nests():
            turned, size = mirrored_nest(nest), nest_size(nest)
            self.assertTrue(is_nest(turned))
            self.assertEqual((nest_size(turned), nest_depth(turned)), (size, nest_depth(nest)))
            for kind in KINDS:
                place = source.randrange(size)
                back = self.TURNED[kind]
                self.assertEqual(label_in(turned, back, size - 1 - place), label_in(nest, kind, place))
                count = count_label(nest, "a")
                if count:
                    index = source.randrange(count)
                    expected = size - 1 - nth_label(nest, kind, "a", index)
                    self.assertEqual(nth_label(turned, back, "a", count - 1 - index), expected)

    def told(self, nest, places, kind="between"):
        found = [nest_size(nest), nest_depth(nest), count_label(nest, "a"), count_label(nest, "z")]
        return found + [(label_in(nest, kind, place), other_place(nest, kind, place, "last")) for place in places]

    def test_entries_that_are_not_used(self):
        source = random.Random(263)
        for nest in small_nests()[::3] + large_nests():
            if len(nest) < 20:
                places = [source.randrange(nest_size(nest)) for _ in range(3)]
                at = source.randrange(len(nest))
                moved = []
                for tree, links in nest[at:]:
                    moved.append((tree, tuple((path, index + (index >= at)) for path, index in links)))
                more = nest[:at] + ((full(12), ()),) + tuple(moved)
                self.assertTrue(is_nest(more))
                self.assertEqual(self.told(more, places), self.told(nest, places))
                if nest_size(nest) <= 12:
                    self.assertEqual(expand_nest(more), expand_nest(nest))

    def test_large_entries_that_are_not_used(self):
        nest = tower(full(12), 19) + ((ONE, ()),)
        self.assertEqual((nest_size(nest), nest_depth(nest), expand_nest(nest)), (1, 1, ONE))
        self.assertEqual(count_label(nest, "b"), 0)
        for kind in KINDS:
            self.check_raises(NoPlace, "value", 1, label_in, nest, kind, 1)

    def test_copies(self):
        # An entry that is linked twice may as well stand there twice.
        nest = ((full(7), ()), (chain(3, "lr"), (("ll", 0), ("r", 0))))
        copied = ((full(7), ()), (full(7), ()), (chain(3, "lr"), (("ll", 0), ("r", 1))))
        places = range(nest_size(nest))
        for kind in KINDS:
            self.assertEqual(self.told(nest, places, kind), self.told(copied, places, kind))

    def test_a_link_alone_changes_only_its_stretch(self):
        for tree in (ONE, chain(4, "rl"), full(6)):
            for path in open_paths(tree):
                bare, hung = ((full(12), ()), (tree, ())), ((full(12), ()), (tree, ((path, 0),)))
                for kind in KINDS:
                    before, inside = told_walk(bare, kind), told_walk(bare[:1], kind)
                    start = len([other for other in labels_by_path(tree) if other + SIGNS[kind] < path + SIGNS[kind]])
                    self.assertEqual(told_walk(hung, kind), before[:start] + inside + before[start:])


def told_walk(nest, kind):
    return "".join(label_in(nest, kind, place) for place in range(nest_size(nest)))


class WrongPlaces(WalkCase):
    NESTS = (((ONE, ()),), N, tower(full(12), 20))

    def test_no_place(self):
        for nest in self.NESTS:
            size = nest_size(nest)
            values = any_values() + [-1, size, size + 1, -size, True, False, "0", str(size), [0], {"a": 0}, (0,)]
            for value in values:
                if not (type(value) is int and 0 <= value < size):
                    for kind in KINDS:
                        self.check_raises(NoPlace, "value", value, label_in, nest, kind, value)
                        for other in KINDS:
                            self.check_raises(NoPlace, "value", value, other_place, nest, kind, value, other)

    def test_no_index(self):
        for nest in self.NESTS:
            for letter in "abq":
                count = count_label(nest, letter)
                for value in any_values() + [-1, count, count + 1, True, False, "0", [0], {"a": 0}, (0,)]:
                    if not (type(value) is int and 0 <= value < count):
                        for kind in KINDS:
                            self.check_raises(NoIndex, "value", value, nth_label, nest, kind, letter, value)

    def test_a_letter_that_does_not_occur(self):
        for nest in self.NESTS:
            self.assertEqual(count_label(nest, "z"), 0)
            for kind in KINDS:
                self.check_raises(NoIndex, "value", 0, nth_label, nest, kind, "z", 0)


if __name__ == "__main__":
    unittest.main()
