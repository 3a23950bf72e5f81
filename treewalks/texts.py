"""Texts of trees: a label, and behind it in parentheses the texts of left and right, where - is no tree."""

from treewalks.bounds import MAX_NODES
from treewalks.errors import BadText
from treewalks.trees import size_of
from treewalks.values import is_letter


def tree_text(tree):
    """Return the text of the tree."""
    left, label, right = tree
    if left is None and right is None:
        return label
    return f"{label}({side_text(left)},{side_text(right)})"


def side_text(side):
    """Return the text of a tree or None."""
    return "-" if side is None else tree_text(side)


def parse_tree(text):
    """Return the tree whose text it is."""
    if not isinstance(text, str):
        raise BadText(None)
    tree, behind = read_tree(text, 0, MAX_NODES)
    if behind < len(text):
        raise BadText(behind)
    return tree


def sign_at(text, at):
    """Return the character at the index, or an empty text behind the end."""
    # Nothing that a reader waits for is empty, so a text that is only a beginning
    # is refused at its length, as the document wants it.
    return text[at:at + 1]


def read_tree(text, at, room):
    """Read a tree of at most so many nodes from the index on; return it and the index behind it."""
    label = sign_at(text, at)
    if room == 0 or not is_letter(label):
        raise BadText(at)
    if sign_at(text, at + 1) != "(":
        return ((None, label, None), at + 1)
    # Parentheses hold at least one more node.
    if room == 1:
        raise BadText(at + 1)
    left, comma = read_left(text, at + 2, room - 1)
    rest = room - 1 - size_of(left)
    right, end = read_tree(text, comma + 1, rest) if left is None else read_side(text, comma + 1, rest)
    if sign_at(text, end) != ")":
        raise BadText(end)
    return ((left, label, right), end + 1)


def read_left(text, at, room):
    """Read the left side from the index on; return it and the index of the comma behind it."""
    left, comma = read_side(text, at, room)
    if sign_at(text, comma) != ",":
        raise BadText(comma)
    return (left, comma)


def read_side(text, at, room):
    """Read a tree of at most so many nodes, or the sign for none; return it and the index behind it."""
    if sign_at(text, at) == "-":
        return (None, at + 1)
    return read_tree(text, at, room)
