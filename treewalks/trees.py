"""Trees: nested tuples (left, label, right), where None is no tree."""

from treewalks.bounds import MAX_NODES
from treewalks.errors import NoPath, TooLarge, TooMany
from treewalks.values import is_letter


def is_node(value):
    """Tell whether the value has the form of a node, whatever its two sides are."""
    return isinstance(value, tuple) and len(value) == 3 and is_letter(value[1])


def is_tree(value):
    """Tell whether any value is a tree."""
    # The nodes are counted on the way, so that a value of any depth or breadth
    # is given up as soon as it is too large.
    count = 0
    waiting = [value]
    while waiting:
        part = waiting.pop()
        count += 1
        if count > MAX_NODES or not is_node(part):
            return False
        waiting.extend([side for side in (part[0], part[2]) if side is not None])
    return True


def size_of(tree):
    """Return the number of nodes."""
    if tree is None:
        return 0
    return size_of(tree[0]) + 1 + size_of(tree[2])


def depth_of(tree):
    """Return the number of nodes on the longest way down from the root."""
    if tree is None:
        return 0
    return 1 + max(depth_of(tree[0]), depth_of(tree[2]))


def part_at(tree, path):
    """Return the tree at the path, None for an open path."""
    if not isinstance(path, str):
        raise NoPath(path)
    part = tree
    for step in path:
        if part is None or step not in ("l", "r"):
            raise NoPath(path)
        part = part[0] if step == "l" else part[2]
    return part


def is_open(tree, path):
    """Tell whether any value is an open path of the tree."""
    try:
        return part_at(tree, path) is None
    except NoPath:
        return False


def replaced(tree, path, part):
    """Return the tree with the part in the place of what is at the path."""
    old = part_at(tree, path)
    if size_of(tree) - size_of(old) + size_of(part) > MAX_NODES:
        raise TooLarge(MAX_NODES)
    return with_part(tree, path, part)


def with_part(tree, path, part):
    """Put the part at a path that part_at accepts."""
    if path == "":
        return part
    left, label, right = tree
    if path[0] == "l":
        return (with_part(left, path[1:], part), label, right)
    return (left, label, with_part(right, path[1:], part))


def mirrored(tree):
    """Return the tree with left and right exchanged at each node."""
    if tree is None:
        return None
    left, label, right = tree
    return (mirrored(right), label, mirrored(left))


def each_node(tree):
    """Yield (path, label) for each node, each root before its left and its right part."""
    waiting = [("", tree)]
    while waiting:
        path, part = waiting.pop()
        if part is not None:
            left, label, right = part
            yield (path, label)
            # What is appended last is taken first: the left part.
            waiting.append((path + "r", right))
            waiting.append((path + "l", left))


def joined(label, *trees):
    """Return the tree with this label over no, one or two trees."""
    if len(trees) > 2:
        raise TooMany(2)
    sides = [*trees, None, None]
    tree = (sides[0], label, sides[1])
    if size_of(tree) > MAX_NODES:
        raise TooLarge(MAX_NODES)
    return tree
