"""Which values are integers, numbers and sequences; tuples with another item."""


def is_whole(value):
    """Whether a value is an integer; a bool is none."""
    return isinstance(value, int) and not isinstance(value, bool)


def is_number(value):
    """Whether a value is a number."""
    return is_whole(value) and value >= 0


def is_below(value, limit):
    """Whether a value is a number below the limit."""
    return is_whole(value) and 0 <= value < limit


def is_sequence(value, least, most):
    """Whether a value is a list or a tuple of so many items."""
    return isinstance(value, (list, tuple)) and least <= len(value) <= most


def first_not_below(items, limit):
    """The index of the first item that is no number below the limit; None if all are."""
    for at, item in enumerate(items):
        if not is_below(item, limit):
            return at
    return None


def is_ascending(value, known):
    """Whether a value is an ascending sequence of some known numbers."""
    if not is_sequence(value, 0, len(known)):
        return False
    if not all([is_whole(item) and item in known for item in value]):
        return False
    return all([one < other for one, other in zip(value, value[1:])])


def replaced(items, at, item):
    """A tuple with another item at one place."""
    return items[:at] + (item,) + items[at + 1:]
