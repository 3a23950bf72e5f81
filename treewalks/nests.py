"""Nests: trees with other trees hung into them again and again, however large they become."""

from treewalks.bounds import MAX_ENTRIES, MAX_NODES
from treewalks.errors import NoIndex, NoPlace, TooLarge
from treewalks.trees import is_open, is_tree
from treewalks.values import LETTERS, is_ascending, is_index

# The parts of a tree in the order of each walk: l and r are its two sides, and "" its root.
TURNS = {"first": ("", "l", "r"), "between": ("l", "", "r"), "last": ("l", "r", "")}


def is_link(value, tree, entries):
    """Tell whether any value is a link from the tree to one of so many earlier entries."""
    if not isinstance(value, tuple) or len(value) != 2:
        return False
    return is_open(tree, value[0]) and is_index(value[1], entries)


def is_entry(value, entries):
    """Tell whether any value is an entry behind so many earlier ones."""
    if not isinstance(value, tuple) or len(value) != 2:
        return False
    tree, links = value
    if not is_tree(tree) or not isinstance(links, tuple):
        return False
    # Links with different paths ascend just if their paths do.
    return all([is_link(link, tree, entries) for link in links]) and is_ascending([link[0] for link in links])


def is_nest(value):
    """Tell whether any value is a nest."""
    if not isinstance(value, tuple) or not 1 <= len(value) <= MAX_ENTRIES:
        return False
    return all([is_entry(entry, at) for at, entry in enumerate(value)])


def spots_of(nest):
    """Return the list of all nodes of the entries as (left, label, right), the root of the nest last.

    Left and right are the numbers of nodes earlier in the list, of other entries too;
    number 0 is no node.
    """
    spots = [(0, "", 0)]
    roots = []
    for tree, links in nest:
        hung = {path: roots[index] for path, index in links}
        roots.append(add_spots(spots, tree, "", hung))
    return spots


def add_spots(spots, tree, path, hung):
    """Add the nodes of the part at the path, and return the number of what is there."""
    if tree is None:
        return hung.get(path, 0)
    left = add_spots(spots, tree[0], path + "l", hung)
    right = add_spots(spots, tree[2], path + "r", hung)
    spots.append((left, tree[1], right))
    return len(spots) - 1


def counts_in(spots, letters):
    """Return how many nodes with one of the letters the tree at each spot has."""
    counts = [0]
    for left, label, right in spots[1:]:
        counts.append(counts[left] + counts[right] + (1 if label in letters else 0))
    return counts


def nest_size(nest):
    """Return the number of nodes of the nested tree."""
    return counts_in(spots_of(nest), LETTERS)[-1]


def count_label(nest, label):
    """Return the number of nodes of the nested tree with this label."""
    return counts_in(spots_of(nest), label)[-1]


def expand_nest(nest):
    """Return the nested tree."""
    if nest_size(nest) > MAX_NODES:
        raise TooLarge(MAX_NODES)
    # Even a spot that plays no part has but one tuple here, which shares its two sides.
    trees = [None]
    for left, label, right in spots_of(nest)[1:]:
        trees.append((trees[left], label, trees[right]))
    return trees[-1]


def nest_depth(nest):
    """Return the depth of the nested tree."""
    depths = [0]
    for left, label, right in spots_of(nest)[1:]:
        depths.append(1 + max(depths[left], depths[right]))
    return depths[-1]


def turned(spots, counts, at, turn):
    """Return the number of the spot on this side, and how many counted nodes it has; at the root its own."""
    left, label, right = spots[at]
    if turn == "":
        return (at, counts[at] - counts[left] - counts[right])
    side = left if turn == "l" else right
    return (side, counts[side])


def way_to(spots, counts, kind, index):
    """Return the path to the node with so many of the counted nodes before it in the walk."""
    way = ""
    rest = index
    at = len(spots) - 1
    while True:
        for turn in TURNS[kind]:
            side, many = turned(spots, counts, at, turn)
            if rest < many:
                break
            rest -= many
        if turn == "":
            return way
        way += turn
        at = side


def place_on(spots, sizes, kind, way):
    """Return the place in the walk of the node at the path."""
    place = 0
    at = len(spots) - 1
    for step in [*way, ""]:
        for turn in TURNS[kind]:
            side, many = turned(spots, sizes, at, turn)
            if turn == step:
                break
            place += many
        at = side
    return place


def label_on(spots, way):
    """Return the label of the node at the path."""
    at = len(spots) - 1
    for step in way:
        left, label, right = spots[at]
        at = left if step == "l" else right
    return spots[at][1]


def way_at(spots, sizes, kind, place):
    """Return the path to the node at any value that is a place of the walk."""
    if not is_index(place, sizes[-1]):
        raise NoPlace(place)
    return way_to(spots, sizes, kind, place)


def label_in(nest, kind, place):
    """Return the label at this place of the walk."""
    spots = spots_of(nest)
    sizes = counts_in(spots, LETTERS)
    return label_on(spots, way_at(spots, sizes, kind, place))


def other_place(nest, kind, place, other):
    """Return the place in the other walk of the node with this place in the walk."""
    spots = spots_of(nest)
    sizes = counts_in(spots, LETTERS)
    return place_on(spots, sizes, other, way_at(spots, sizes, kind, place))


def nth_label(nest, kind, label, index):
    """Return the place of the node with this label and so many such nodes before it in the walk."""
    spots = spots_of(nest)
    counts = counts_in(spots, label)
    if not is_index(index, counts[-1]):
        raise NoIndex(index)
    return place_on(spots, counts_in(spots, LETTERS), kind, way_to(spots, counts, kind, index))
