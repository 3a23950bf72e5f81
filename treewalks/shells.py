"""A shell: lines of text that edit and ask a desk."""

from treewalks.errors import Busy, LastNode, NoPath, NothingToUndo, NotOpen, NotSearch, TooLarge, TooManyEdits
from treewalks.fits import count_trees
from treewalks.search import count_orders, is_search_tree
from treewalks.texts import tree_text
from treewalks.trees import depth_of, size_of
from treewalks.values import is_letter
from treewalks.walks import KINDS, walk

UNKNOWN = "unknown command"
# How many words follow the name of a method: a path, then a letter.
FOLLOWING = {"put": 2, "cut": 1, "label": 2, "turn": 1, "undo": 0}


def is_path_word(word):
    """Tell whether the word stands for a path."""
    return word == "." or (word != "" and all([step in ("l", "r") for step in word]))


def is_call(word, rest):
    """Tell whether these words call a method of the desk."""
    if FOLLOWING.get(word) != len(rest):
        return False
    return all([is_path_word(path) for path in rest[:1]]) and all([is_letter(label) for label in rest[1:]])


def answer_about(tree, word):
    """Return what the word asks about the tree."""
    if word == "tree":
        return tree_text(tree)
    if word in KINDS:
        return walk(tree, word)
    if word == "size":
        return str(size_of(tree))
    if word == "depth":
        return str(depth_of(tree))
    if word == "trees":
        return str(count_trees(first=walk(tree, "first"), last=walk(tree, "last")))
    if word == "orders":
        return str(count_orders(tree)) if is_search_tree(tree) else "none"
    return UNKNOWN


class Shell:
    """Executes lines on a desk."""

    def __init__(self, desk):
        self.desk = desk

    def execute(self, line):
        """Return the answer to any value as a line."""
        if not isinstance(line, str):
            return UNKNOWN
        word, *rest = line.split(" ")
        if is_call(word, rest):
            return self.outcome(word, ["" if value == "." else value for value in rest])
        return UNKNOWN if rest else answer_about(self.desk.tree(), word)

    def outcome(self, word, values):
        """Call the method and return how it ended."""
        # Each class is named by itself, since an error does not tell its name;
        # NoLabel cannot arise, as a word that is no letter makes no command.
        try:
            return f"ok {self.version_after(word, values)}"
        except Busy:
            return "error Busy"
        except TooManyEdits:
            return "error TooManyEdits"
        except NotOpen:
            return "error NotOpen"
        except TooLarge:
            return "error TooLarge"
        except NoPath:
            return "error NoPath"
        except LastNode:
            return "error LastNode"
        except NotSearch:
            return "error NotSearch"
        except NothingToUndo:
            return "error NothingToUndo"

    def version_after(self, word, values):
        """Call the method of the desk and return the version that it returns."""
        if word == "put":
            return self.desk.put(*values)
        if word == "cut":
            return self.desk.cut(*values)
        if word == "label":
            return self.desk.label(*values)
        if word == "turn":
            return self.desk.turn(*values)
        return self.desk.undo()
