"""Which values are integers, numbers below a limit, and sequences."""


def is_whole(value):
    """Whether a value is an integer; a bool is none."""
    return isinstance(value, int) and not isinstance(value, bool)


def is_below(value, limit):
    """Whether a value is a number below the limit."""
    return is_whole(value) and 0 <= value < limit


def is_sequence(value, least, most):
    """Whether a value is a list or a tuple of so many items."""
    return isinstance(value, (list, tuple)) and least <= len(value) <= most


def first_not_below(items, limit):
    """The index of the first item that is no number below the limit; None if all are."""
    for at, item in enumerate(items):
        if not is_below(item, limit):
            return at
    return None
