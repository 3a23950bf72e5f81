"""The errors of the package, each with the values that it tells as attributes."""


class WalkError(ValueError):
    """The base of all errors but those of looking something up."""


class TooLarge(WalkError):
    """A tree would have more nodes than the limit."""

    def __init__(self, limit):
        self.limit = limit


class TooMany(WalkError):
    """There are more arguments than the limit."""

    def __init__(self, limit):
        self.limit = limit


class NoRows(WalkError):
    """No row is given."""


class BadRow(WalkError):
    """The argument of this name is not a row."""

    def __init__(self, name):
        self.name = name


class NotAlike(WalkError):
    """The row of this name has another length than the first row."""

    def __init__(self, name):
        self.name = name


class NoFit(WalkError):
    """No tree fits, or the value is not a tree that fits."""


class NoTree(WalkError):
    """The pair belongs to no tree."""


class BadLefts(WalkError):
    """The value does not arise from the letters of the single nodes."""

    def __init__(self, lefts):
        self.lefts = lefts


class Twice(WalkError):
    """The tree has this letter already."""

    def __init__(self, letter):
        self.letter = letter


class NoOrder(WalkError):
    """The value is not an order of the search tree."""


class BadTree(WalkError):
    """The value is not a tree."""


class NotOpen(WalkError):
    """The value is not an open path."""

    def __init__(self, path):
        self.path = path


class NoLabel(WalkError):
    """The value that should be a label is not a letter."""

    def __init__(self, letter):
        self.letter = letter


class NotOneToOne(WalkError):
    """Two letters lead to this letter."""

    def __init__(self, letter):
        self.letter = letter


class LastNode(WalkError):
    """The root cannot be cut."""


class NotSearch(WalkError):
    """The tree with this walk is not a search tree."""

    def __init__(self, walk):
        self.walk = walk


class TooManyEdits(WalkError):
    """No further edit can stand."""


class NothingToUndo(WalkError):
    """No edit stands."""


class BadEdits(WalkError):
    """The value is not a batch of edits."""


class BadEdit(WalkError):
    """The item with this index is not an edit."""

    def __init__(self, index):
        self.index = index


class Rejected(WalkError):
    """The edit with this index raised an error."""

    def __init__(self, index):
        self.index = index


class Busy(WalkError):
    """The desk is in the middle of a run."""


class BadText(WalkError):
    """The text is wrong from this index on; None if the value is not a text."""

    def __init__(self, index):
        self.index = index


class NoPath(LookupError):
    """The value leads to no node, nor to an open place where that would do."""

    def __init__(self, value):
        self.value = value


class NoKind(LookupError):
    """The value is not a kind of walks."""

    def __init__(self, value):
        self.value = value


class NoPlace(LookupError):
    """The value is not a place of the walk."""

    def __init__(self, value):
        self.value = value


class NoIndex(LookupError):
    """The value is not an index of what is numbered."""

    def __init__(self, value):
        self.value = value


class NoVersion(LookupError):
    """The value is not a version of the desk."""

    def __init__(self, value):
        self.value = value


class NoLetter(LookupError):
    """The value that should be renamed is not a letter."""

    def __init__(self, value):
        self.value = value
