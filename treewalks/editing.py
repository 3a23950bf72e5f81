"""What the edits of desks make of a tree."""

from treewalks.errors import LastNode, NoLabel, NoPath, NotOpen
from treewalks.trees import is_open, mirrored, part_at, replaced
from treewalks.values import is_letter


def node_at(tree, path):
    """Return the tree at the path, at which there must be a node."""
    part = part_at(tree, path)
    if part is None:
        raise NoPath(path)
    return part


def with_node(tree, path, label):
    """Return the tree with a new node at an open path."""
    if not is_open(tree, path):
        raise NotOpen(path)
    if not is_letter(label):
        raise NoLabel(label)
    return replaced(tree, path, (None, label, None))


def without_node(tree, path):
    """Return the tree without the node and all nodes below it."""
    node_at(tree, path)
    if path == "":
        raise LastNode()
    return replaced(tree, path, None)


def with_label(tree, path, label):
    """Return the tree in which the node has this label."""
    left, old, right = node_at(tree, path)
    if not is_letter(label):
        raise NoLabel(label)
    return replaced(tree, path, (left, label, right))


def turned(tree, path):
    """Return the tree that is mirrored at the path."""
    return replaced(tree, path, mirrored(node_at(tree, path)))


ACTIONS = {"put": with_node, "cut": without_node, "label": with_label, "turn": turned}
LENGTHS = {"put": 3, "cut": 2, "label": 3, "turn": 2}


def has_form_of_edit(value):
    """Tell whether any value is a tuple of a word and as many arguments as its method takes."""
    if not isinstance(value, tuple) or len(value) == 0 or not isinstance(value[0], str):
        return False
    return LENGTHS.get(value[0]) == len(value)


def edited(tree, edit):
    """Return the tree after the edit."""
    word, *rest = edit
    action = ACTIONS[word]
    return action(tree, *rest)
