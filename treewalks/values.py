"""What letters, integers and ascending items are, for functions that accept any value."""

LETTERS = "abcdefghijklmnopqrstuvwxyz"


def is_letter(value):
    """Tell whether the value is one of the texts "a" to "z"."""
    return isinstance(value, str) and len(value) == 1 and "a" <= value <= "z"


def is_whole_number(value):
    """Tell whether the value is an integer; True and False are none."""
    return isinstance(value, int) and not isinstance(value, bool)


def is_index(value, many):
    """Tell whether the value is an integer from 0 to one less than so many."""
    return is_whole_number(value) and 0 <= value < many


def is_ascending(items):
    """Tell whether each item is greater than the one before it, for items of one sort."""
    return all([one < other for one, other in zip(items, items[1:])])


def is_tagged(value):
    """Tell whether the value has the form of a certificate: a text and what it is about."""
    return isinstance(value, tuple) and len(value) == 2 and isinstance(value[0], str)
