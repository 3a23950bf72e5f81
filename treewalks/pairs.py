"""Pairs: the walks "first" and "last" of a tree of different letters, which leave some sides open."""

from treewalks.bounds import MAX_NODES
from treewalks.errors import BadLefts, NoTree
from treewalks.trees import is_tree
from treewalks.values import is_ascending, is_letter, is_tagged
from treewalks.walks import walks


def has_different_letters(value):
    """Tell whether any value is a text of 1 to MAX_NODES different letters."""
    if not isinstance(value, str) or not 1 <= len(value) <= MAX_NODES:
        return False
    return all([is_letter(sign) for sign in value]) and len(set(value)) == len(value)


def is_pair(value):
    """Tell whether any value is a pair."""
    if not isinstance(value, tuple) or len(value) != 2:
        return False
    first, last = value
    return has_different_letters(first) and has_different_letters(last) and sorted(first) == sorted(last)


def pair_of(tree):
    """Return the walks "first" and "last" of the tree."""
    return walks(tree, "first", "last")


def in_order(text, letters):
    """Tell whether the letters stand in this order in the text, each of them once."""
    return is_ascending([text.index(letter) for letter in letters])


def is_below(pair, letter, other):
    """Tell whether the letter is below the other one."""
    first, last = pair
    return first.index(other) < first.index(letter) and last.index(letter) < last.index(other)


def children_of(pair, letter):
    """Return the text of the children of the letter, in the order of first."""
    lower = [other for other in pair[0] if is_below(pair, other, letter)]
    return "".join([one for one in lower if not any([is_below(pair, one, other) for other in lower])])


def families_of(pair):
    """Return the dict of the children of each letter, with the letters in the order of first."""
    return {letter: children_of(pair, letter) for letter in pair[0]}


def letters_of(pair, value, many):
    """Tell whether any value is a tuple of so many letters of the pair."""
    if not isinstance(value, tuple) or len(value) != many:
        return False
    return all([is_letter(item) and item in pair[0] for item in value])


def is_triple(pair, value):
    """Tell whether any value is a triple of the pair."""
    if not letters_of(pair, value, 3):
        return False
    one, two, three = value
    return in_order(pair[0], [one, two, three]) and in_order(pair[1], [three, one, two])


def is_crowd(pair, value):
    """Tell whether any value is a crowd of the pair."""
    if not letters_of(pair, value, 4):
        return False
    parent, *children = value
    family = children_of(pair, parent)
    return all([child in family for child in children]) and in_order(pair[0], children)


def has_wrong_root(pair):
    """Tell whether the root would not be the same in both texts."""
    first, last = pair
    return first[0] != last[-1]


def triples_of(pair):
    """Return the list of all triples."""
    first = pair[0]
    return [
        (first[one], first[two], first[three])
        for three in range(len(first)) for two in range(three) for one in range(two)
        if is_triple(pair, (first[one], first[two], first[three]))
    ]


def reason_against(pair):
    """Return why the pair belongs to no tree, or None if it belongs to one."""
    if has_wrong_root(pair):
        return ("root", pair[0][0])
    triples = triples_of(pair)
    if triples:
        return ("triple", triples[0])
    families = families_of(pair)
    for letter in pair[0]:
        if len(families[letter]) > 2:
            return ("crowd", tuple(letter + families[letter][:3]))
    return None


def grown(families, letter, lefts):
    """Return the tree below the letter, with the single nodes of these lefts open to the left."""
    parts = [grown(families, child, lefts) for child in families[letter]]
    if len(parts) == 1 and letter not in lefts:
        return (None, letter, parts[0])
    sides = [*parts, None, None]
    return (sides[0], letter, sides[1])


def pair_certificate(pair):
    """Return the tree with all single children on the left, or a reason why there is none."""
    reason = reason_against(pair)
    if reason is not None:
        return reason
    return ("tree", grown(families_of(pair), pair[0][0], pair[0]))


def pair_holds(pair, value):
    """Tell whether any value is a tree to which the pair belongs, or a reason why there is none."""
    if not is_tagged(value):
        return False
    word, proof = value
    if word == "tree":
        return is_tree(proof) and pair_of(proof) == pair
    if word == "root":
        return has_wrong_root(pair) and proof == pair[0][0]
    if word == "triple":
        return is_triple(pair, proof)
    return word == "crowd" and is_crowd(pair, proof)


def single_among(families):
    """Return the text of the letters with exactly one child, in the order of the families."""
    return "".join([letter for letter in families if len(families[letter]) == 1])


def single_letters(pair):
    """Return the text of the letters of the single nodes, in the order of first."""
    if reason_against(pair) is not None:
        raise NoTree()
    return single_among(families_of(pair))


def pair_tree(pair, lefts):
    """Return the tree in which just the single nodes of these letters have their child on the left."""
    singles = single_letters(pair)
    if not isinstance(lefts, str) or lefts != "".join([letter for letter in singles if letter in lefts]):
        raise BadLefts(lefts)
    return grown(families_of(pair), pair[0][0], lefts)


def count_pair_trees(pair):
    """Return the number of trees to which the pair belongs."""
    if reason_against(pair) is not None:
        return 0
    many = 1
    for letter in single_among(families_of(pair)):
        many *= 2
    return many


def each_lefts(singles):
    """Yield all texts that arise by leaving out letters, in the order of texts."""
    yield ""
    for letter in sorted(singles):
        behind = singles[singles.index(letter) + 1:]
        for rest in each_lefts(behind):
            yield letter + rest


def each_pair_tree(pair):
    """Yield the trees to which the pair belongs, in the order of their lefts."""
    if reason_against(pair) is None:
        families = families_of(pair)
        singles = single_among(families)
        for lefts in each_lefts(singles):
            yield grown(families, pair[0][0], lefts)
