"""Walks: the labels of a tree in the order of one of four kinds."""

from treewalks.errors import NoKind, NoPath, NoPlace
from treewalks.values import is_whole_number

KINDS = ("first", "between", "last", "level")


def is_kind(value):
    """Tell whether any value is a kind."""
    return isinstance(value, str) and value in KINDS


def ordered_steps(tree, kind):
    """Return the list of (path, label) of all nodes in the order of the walk."""
    if not is_kind(kind):
        raise NoKind(kind)
    if kind == "level":
        return level_steps(tree)
    return deep_steps(tree, kind, "")


def deep_steps(tree, kind, path):
    """Return the steps of the part at the path, for a kind other than level."""
    if tree is None:
        return []
    left, label, right = tree
    root = [(path, label)]
    lefts = deep_steps(left, kind, path + "l")
    rights = deep_steps(right, kind, path + "r")
    if kind == "first":
        return root + lefts + rights
    if kind == "between":
        return lefts + root + rights
    return lefts + rights + root


def level_steps(tree):
    """Return the steps level by level."""
    # The walk "first" has the nodes of a level from left to right already, and
    # sorting by the length of the path keeps them so.
    return sorted(deep_steps(tree, "first", ""), key=lambda step: len(step[0]))


def walk(tree, kind):
    """Return the walk of this kind."""
    return "".join([label for path, label in ordered_steps(tree, kind)])


def walks(tree, *kinds):
    """Return the tuple of the walks of these kinds."""
    return tuple([walk(tree, kind) for kind in kinds])


def place_of(tree, kind, path):
    """Return the place in the walk of the node at the path."""
    paths = [step[0] for step in ordered_steps(tree, kind)]
    if not isinstance(path, str) or path not in paths:
        raise NoPath(path)
    return paths.index(path)


def path_at(tree, kind, place):
    """Return the path of the node with this place in the walk."""
    steps = ordered_steps(tree, kind)
    if not is_whole_number(place) or not 0 <= place < len(steps):
        raise NoPlace(place)
    return steps[place][0]


def each_step(tree, kind):
    """Yield (path, label) for each node in the order of the walk."""
    for step in ordered_steps(tree, kind):
        yield step
