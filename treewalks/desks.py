"""Desks: trees that are edited and undone, one by one or in runs."""

from treewalks.bounds import BATCH
from treewalks.editing import edited, has_form_of_edit
from treewalks.errors import BadEdit, BadEdits, BadTree, Busy, NoPath, NothingToUndo, NotSearch, NoVersion, Rejected
from treewalks.errors import TooManyEdits, WalkError
from treewalks.search import is_search_tree
from treewalks.texts import parse_tree
from treewalks.trees import is_tree, size_of
from treewalks.values import is_index
from treewalks.walks import walk


class Desk:
    """A tree and the edits on it that stand."""

    MOST_EDITS = 60
    WORDS = ("put", "cut", "label", "turn")

    def __init__(self, tree):
        if not is_tree(tree):
            raise BadTree()
        # The trees of all versions, and the edits that lead from each to the next.
        self.trees = (tree,)
        self.done = ()
        self.busy = False

    @classmethod
    def read(cls, text):
        """Return a desk with the tree of the text."""
        return cls(parse_tree(text))

    @staticmethod
    def is_edit(value):
        """Tell whether any value is an edit."""
        return has_form_of_edit(value)

    def put(self, path, label):
        """Put a new node at an open path."""
        return self.called(("put", path, label))

    def cut(self, path):
        """Remove the node at the path and all nodes below it."""
        return self.called(("cut", path))

    def label(self, path, label):
        """Give the node at the path this label."""
        return self.called(("label", path, label))

    def turn(self, path):
        """Mirror the tree at the path."""
        return self.called(("turn", path))

    def undo(self):
        """Remove the last edit that stands."""
        self.check_free()
        if not self.done:
            raise NothingToUndo()
        self.trees = self.trees[:-1]
        self.done = self.done[:-1]
        return self.told("undo")

    def run(self, edits, *, on_step=None):
        """Do all edits, or none of them if one fails."""
        self.check_free()
        batch = self.checked_batch(edits)
        trees, done = self.trees, self.done
        self.busy = True
        try:
            for index, edit in enumerate(batch):
                if not self.could_take(edit):
                    raise Rejected(index)
                if on_step is not None:
                    on_step(self)
            trees, done = self.trees, self.done
        finally:
            # After an exception these are still the ones from before the run.
            self.trees, self.done = trees, done
            self.busy = False
        return self.told("run")

    @property
    def version(self):
        """The number of edits that stand."""
        return len(self.done)

    @property
    def size(self):
        """The size of the tree."""
        return size_of(self.trees[-1])

    @property
    def first(self):
        """The walk of this kind."""
        return walk(self.trees[-1], "first")

    @property
    def between(self):
        """The walk of this kind."""
        return walk(self.trees[-1], "between")

    @property
    def last(self):
        """The walk of this kind."""
        return walk(self.trees[-1], "last")

    def tree(self, *, version=None):
        """Return the tree, or the one of an earlier version."""
        if version is None:
            return self.trees[-1]
        if not is_index(version, len(self.trees)):
            raise NoVersion(version)
        return self.trees[version]

    def edits(self):
        """Return the tuple of the edits that stand."""
        return self.done

    def history(self):
        """Yield (version, tree) for each version."""
        for version, tree in enumerate(self.trees):
            yield (version, tree)

    def __len__(self):
        return len(self.done)

    def __str__(self):
        return f"{size_of(self.trees[-1])} nodes, {len(self.done)} edits"

    def __eq__(self, other):
        return isinstance(other, Desk) and self.trees[-1] == other.trees[-1]

    def check_free(self):
        """Refuse calls while a run is under way."""
        if self.busy:
            raise Busy()

    def check_tree(self, tree):
        """Refuse a tree that this class does not hold; a plain desk holds every tree."""

    def checked_batch(self, edits):
        """Return a list of its own with these edits."""
        if not isinstance(edits, (list, tuple)) or len(edits) > BATCH:
            raise BadEdits()
        for index, edit in enumerate(edits):
            if not self.is_edit(edit):
                raise BadEdit(index)
        return list(edits)

    def take(self, edit):
        """Do the edit, whoever asks for it."""
        if len(self.done) >= self.MOST_EDITS:
            raise TooManyEdits()
        tree = edited(self.trees[-1], edit)
        self.check_tree(tree)
        self.trees = (*self.trees, tree)
        self.done = (*self.done, edit)

    def could_take(self, edit):
        """Do the edit and tell whether it could be done."""
        try:
            self.take(edit)
        except (WalkError, NoPath):
            return False
        return True

    def called(self, edit):
        """Do the edit as a call of its own."""
        self.check_free()
        self.take(edit)
        return self.told(edit[0])

    def told(self, name):
        """Return the version behind a call of this name, which is done."""
        return len(self.done)


class SearchDesk(Desk):
    """A desk that holds search trees only."""

    def __init__(self, tree):
        super().__init__(tree)
        self.check_tree(tree)

    def check_tree(self, tree):
        """Refuse a tree that is not a search tree."""
        if not is_search_tree(tree):
            raise NotSearch(walk(tree, "between"))


class LoggedDesk(Desk):
    """A desk that notes each call that changes it."""

    def __init__(self, tree):
        super().__init__(tree)
        self.calls = ()

    @property
    def log(self):
        """The rows (name, version) of all calls that raised no error."""
        return self.calls

    def told(self, name):
        """Note the call and return the version."""
        version = super().told(name)
        self.calls = (*self.calls, (name, version))
        return version


class LoggedSearchDesk(LoggedDesk, SearchDesk):
    """A desk that holds search trees only and notes each call that changes it."""

    def __init__(self, tree):
        super().__init__(tree)
