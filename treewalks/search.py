"""Search trees, and the orders of letters in which they arise."""

from treewalks.bounds import MAX_NODES
from treewalks.errors import NoIndex, NoOrder, TooLarge, Twice
from treewalks.trees import is_tree, size_of
from treewalks.values import is_ascending, is_index, is_tagged
from treewalks.walks import walk


def is_search_tree(tree):
    """Tell whether the tree is a search tree."""
    return tree is not None and is_ascending(walk(tree, "between"))


def is_barrier(order, value):
    """Tell whether any value is a barrier of the order."""
    if not isinstance(value, tuple) or len(value) != 3:
        return False
    if not all([is_index(place, len(order)) for place in value]) or not is_ascending(value):
        return False
    low, high, behind = value
    return order[behind] < order[low] < order[high]


def barriers_of(order):
    """Return the list of all barriers."""
    return [
        (low, high, behind)
        for behind in range(len(order)) for high in range(behind) for low in range(high)
        if is_barrier(order, (low, high, behind))
    ]


def search_certificate(order):
    """Return the search tree whose walk "first" is the order, or a barrier."""
    barriers = barriers_of(order)
    return ("barrier", barriers[0]) if barriers else ("tree", tree_of(order))


def search_holds(order, value):
    """Tell whether any value is the search tree whose walk "first" is the order, or a barrier."""
    if not is_tagged(value):
        return False
    word, proof = value
    if word == "tree":
        return is_tree(proof) and is_search_tree(proof) and walk(proof, "first") == order
    return word == "barrier" and is_barrier(order, proof)


def with_letter(tree, letter):
    """Put the letter, which the tree does not have, where it belongs."""
    if tree is None:
        return (None, letter, None)
    left, label, right = tree
    if letter < label:
        return (with_letter(left, letter), label, right)
    return (left, label, with_letter(right, letter))


def inserted(tree, letter):
    """Return the search tree after inserting the letter."""
    if tree is not None and letter in walk(tree, "first"):
        raise Twice(letter)
    if size_of(tree) >= MAX_NODES:
        raise TooLarge(MAX_NODES)
    return with_letter(tree, letter)


def tree_of(order):
    """Return the tree of the order."""
    tree = None
    for letter in order:
        tree = inserted(tree, letter)
    return tree


def sizes_in(tree):
    """Return the list of the sizes of the trees at all nodes."""
    if tree is None:
        return []
    left, label, right = tree
    below = sizes_in(left) + sizes_in(right)
    return [len(below) + 1, *below]


def count_together(parts):
    """Return in how many orders the letters of these trees can come, each parent before its children."""
    sizes = [size for part in parts for size in sizes_in(part)]
    # Of all orders, each node comes first among the nodes of its own tree in one of so many
    # as that tree has nodes, whatever holds for the others.
    orders = 1
    for at in range(len(sizes)):
        orders *= at + 1
    for size in sizes:
        orders //= size
    return orders


def count_orders(tree):
    """Return the number of orders of which the search tree is the tree."""
    return count_together([tree])


def next_steps(parts):
    """Return (letter, rest) for each letter that can come next, in their order; rest are the trees left then."""
    found = []
    for at, (left, letter, right) in enumerate(parts):
        sides = [side for side in (left, right) if side is not None]
        found.append((letter, parts[:at] + sides + parts[at + 1:]))
    return sorted(found, key=lambda step: step[0])


def numbered_order(parts, index):
    """Return the order with this index among those of the trees together."""
    if not parts:
        return ""
    more = index
    for letter, rest in next_steps(parts):
        many = count_together(rest)
        if more < many:
            break
        more -= many
    return letter + numbered_order(rest, more)


def order_at(tree, index):
    """Return the order with this index."""
    if not is_index(index, count_orders(tree)):
        raise NoIndex(index)
    return numbered_order([tree], index)


def order_index(tree, value):
    """Return the index of any value that is an order of the search tree."""
    if not isinstance(value, str) or len(value) != size_of(tree):
        raise NoOrder()
    index = 0
    parts = [tree]
    for letter in value:
        steps = next_steps(parts)
        taken = [rest for other, rest in steps if other == letter]
        if not taken:
            raise NoOrder()
        index += sum([count_together(rest) for other, rest in steps if other < letter])
        parts = taken[0]
    return index


def each_order_of(parts, start):
    """Yield the orders of the trees together, from the index start on."""
    if not parts:
        yield ""
    skipped = start
    for letter, rest in next_steps(parts):
        many = count_together(rest)
        if skipped < many:
            for text in each_order_of(rest, skipped):
                yield letter + text
        skipped = max(0, skipped - many)


def each_order(tree, *, start=0):
    """Yield the orders of the search tree from the index start on."""
    parts = [tree]
    yield from each_order_of(parts, start)
