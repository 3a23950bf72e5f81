"""What letters and integers are, for functions that accept any value."""


def is_letter(value):
    """Tell whether the value is one of the texts "a" to "z"."""
    return isinstance(value, str) and len(value) == 1 and "a" <= value <= "z"


def is_whole_number(value):
    """Tell whether the value is an integer; True and False are none."""
    return isinstance(value, int) and not isinstance(value, bool)
