"""Trees that fit: which trees have given walks, perhaps with unknown places."""

from treewalks.bounds import MAX_NODES
from treewalks.errors import BadRow, NoFit, NoIndex, NoKind, NoRows, NotAlike
from treewalks.trees import is_tree, size_of
from treewalks.values import LETTERS, is_ascending, is_index, is_letter, is_tagged, is_whole_number
from treewalks.walks import walks

ROW_KINDS = ("first", "between", "last")


def is_row(value):
    """Tell whether any value is a row."""
    if not isinstance(value, str) or not 1 <= len(value) <= MAX_NODES:
        return False
    return all([sign == "?" or is_letter(sign) for sign in value])


def three_rows(rows):
    """Return the rows first, between and last; one that is not given has unknown places only."""
    for name in rows:
        if name not in ROW_KINDS:
            raise NoKind(name)
    if not rows:
        raise NoRows()
    for name in rows:
        if not is_row(rows[name]):
            raise BadRow(name)
    names = list(rows)
    size = len(rows[names[0]])
    for name in names:
        if len(rows[name]) != size:
            raise NotAlike(name)
    return tuple([rows.get(kind, "?" * size) for kind in ROW_KINDS])


def whole_of(given):
    """Return the stretch of the whole tree."""
    return (len(given[0]), 0, 0, 0)


def common_letters(signs):
    """Return the letters that a node may have which the rows show as these signs."""
    known = signs.replace("?", "")
    if known == "":
        return LETTERS
    return known[0] if known == known[0] * len(known) else ""


def allowed_splits(given, stretch):
    """Return (letters, left, right) for each allowed split: what its root may be, and its parts."""
    size, first, between, last = stretch
    found = []
    for many in range(size):
        letters = common_letters(given[0][first] + given[1][between + many] + given[2][last + size - 1])
        if letters:
            left = (many, first + 1, between, last)
            right = (size - 1 - many, first + 1 + many, between + many + 1, last + many)
            found.append((letters, left, right))
    return found


def counts_of(given):
    """Return the dict of the numbers of trees of all stretches to which allowed splits lead."""
    counts = {}
    add_counts(given, whole_of(given), counts)
    return counts


def add_counts(given, stretch, counts):
    """Add the numbers of the stretch and of all its parts to the dict."""
    if stretch in counts:
        return
    total = 1 if stretch[0] == 0 else 0
    for letters, left, right in allowed_splits(given, stretch):
        add_counts(given, left, counts)
        add_counts(given, right, counts)
        total += len(letters) * counts[left] * counts[right]
    counts[stretch] = total


def live_splits(given, counts, stretch):
    """Return the allowed splits that some tree has."""
    splits = allowed_splits(given, stretch)
    return [(letters, left, right) for letters, left, right in splits if counts[left] and counts[right]]


def choices(given, counts, stretch):
    """Return (letter, left, right) for each root that some tree has, in the order of trees."""
    splits = live_splits(given, counts, stretch)
    # A left part begins with its size, so it decides between equal letters as it should.
    return sorted([(letter, left, right) for letters, left, right in splits for letter in letters])


def tree_fits(tree, given):
    """Tell whether the tree fits the three rows."""
    if size_of(tree) != len(given[0]):
        return False
    told = walks(tree, *ROW_KINDS)
    return all([sign in ("?", label) for row, text in zip(given, told) for sign, label in zip(row, text)])


def fits(tree, **rows):
    """Tell whether the tree fits."""
    return tree_fits(tree, three_rows(rows))


def count_trees(**rows):
    """Return the number of trees that fit."""
    given = three_rows(rows)
    return counts_of(given)[whole_of(given)]


def numbered_part(given, counts, stretch, index):
    """Return the tree with this index among those of the stretch."""
    if stretch[0] == 0:
        return None
    rest = index
    for letter, left, right in choices(given, counts, stretch):
        many = counts[left] * counts[right]
        if rest < many:
            break
        rest -= many
    at_left, at_right = divmod(rest, counts[right])
    return (numbered_part(given, counts, left, at_left), letter, numbered_part(given, counts, right, at_right))


def tree_at(index, **rows):
    """Return the tree with this index among those that fit."""
    given = three_rows(rows)
    counts = counts_of(given)
    whole = whole_of(given)
    if not is_index(index, counts[whole]):
        raise NoIndex(index)
    return numbered_part(given, counts, whole, index)


def part_index(given, counts, stretch, tree):
    """Return the index of a tree, perhaps None, among those of the stretch."""
    if tree is None:
        return 0
    before = 0
    for letter, left, right in choices(given, counts, stretch):
        if (letter, left[0]) == (tree[1], size_of(tree[0])):
            break
        before += counts[left] * counts[right]
    at_left = part_index(given, counts, left, tree[0])
    return before + at_left * counts[right] + part_index(given, counts, right, tree[2])


def tree_index(value, **rows):
    """Return the index of a tree that fits."""
    given = three_rows(rows)
    if not is_tree(value) or not tree_fits(value, given):
        raise NoFit()
    return part_index(given, counts_of(given), whole_of(given), value)


def each_part(given, counts, stretch):
    """Yield the trees of the stretch in their order."""
    if stretch[0] == 0:
        yield None
    for letter, left, right in choices(given, counts, stretch):
        for one in each_part(given, counts, left):
            for other in each_part(given, counts, right):
                yield (one, letter, other)


def each_tree(**rows):
    """Yield the trees that fit in their order."""
    given = three_rows(rows)
    counts = counts_of(given)
    whole = whole_of(given)
    yield from each_part(given, counts, whole)


def live_roots(given, counts):
    """Return (letters, places) for each root of a part of some tree, its places in the three walks."""
    found = []
    waiting = [whole_of(given)]
    seen = {}
    while waiting:
        stretch = waiting.pop()
        if stretch in seen:
            continue
        seen[stretch] = True
        for letters, left, right in live_splits(given, counts, stretch):
            found.append((letters, (stretch[1], right[2] - 1, stretch[3] + stretch[0] - 1)))
            waiting.extend([left, right])
    return found


def sure_rows(**rows):
    """Return the three rows with all letters that all trees that fit have in common."""
    given = three_rows(rows)
    counts = counts_of(given)
    if counts[whole_of(given)] == 0:
        raise NoFit()
    signs = {}
    for letters, places in live_roots(given, counts):
        told = letters if len(letters) == 1 else "?"
        for at, place in enumerate(places):
            signs[at, place] = told if signs.get((at, place), told) == told else "?"
    return tuple(["".join([signs[at, place] for place in range(len(row))]) for at, row in enumerate(given)])


def refutation_of(given, counts):
    """Return the refutation that follows from the whole, if no tree fits."""
    whole = whole_of(given)
    found = {whole: True}
    waiting = [whole]
    while waiting:
        stretch = waiting.pop()
        for letters, left, right in allowed_splits(given, stretch):
            part = right if counts[left] else left
            if part not in found:
                found[part] = True
                waiting.append(part)
    return tuple(sorted(found))


def find_refutation(**rows):
    """Return a refutation, or None if some tree fits."""
    given = three_rows(rows)
    counts = counts_of(given)
    return None if counts[whole_of(given)] else refutation_of(given, counts)


def is_full_stretch(value, size):
    """Tell whether any value is a stretch of rows of this size, and not of size 0."""
    if not isinstance(value, tuple) or len(value) != 4:
        return False
    if not all([is_whole_number(item) and item >= 0 for item in value]):
        return False
    return value[0] > 0 and value[0] + max(value[1:]) <= size


def is_refutation(value, given):
    """Tell whether any value is a refutation."""
    if not isinstance(value, tuple) or not all([is_full_stretch(item, len(given[0])) for item in value]):
        return False
    inside = {stretch: True for stretch in value}
    if not is_ascending(value) or whole_of(given) not in inside:
        return False
    for stretch in value:
        for letters, left, right in allowed_splits(given, stretch):
            if left not in inside and right not in inside:
                return False
    return True


def refutation_holds(value, **rows):
    """Tell whether any value is a refutation."""
    return is_refutation(value, three_rows(rows))


def verdict(**rows):
    """Return ("tree", tree) with the first tree that fits, or ("refutation", refutation)."""
    given = three_rows(rows)
    counts = counts_of(given)
    whole = whole_of(given)
    if counts[whole]:
        return ("tree", numbered_part(given, counts, whole, 0))
    return ("refutation", refutation_of(given, counts))


def verdict_holds(value, **rows):
    """Tell whether any value is a correct verdict, with any tree that fits or any refutation."""
    given = three_rows(rows)
    if not is_tagged(value):
        return False
    word, proof = value
    if word == "tree":
        return is_tree(proof) and tree_fits(proof, given)
    return word == "refutation" and is_refutation(proof, given)
