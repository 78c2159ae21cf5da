"""Questions about any value that the judges of this package ask again and again."""


def is_whole(value):
    """Whether value is a whole: True and False are ints for Python, but no wholes here."""
    return isinstance(value, int) and not isinstance(value, bool)


def is_within(value, low, high):
    """Whether value is a whole from low to high."""
    return is_whole(value) and low <= value <= high


def is_list(value):
    """Whether value may stand where a list is expected."""
    return isinstance(value, (list, tuple))


def is_tuple_of(value, many):
    """Whether value is a tuple of just so many items."""
    return isinstance(value, tuple) and len(value) == many


def is_tuple_within(value, low, high):
    """Whether value is a tuple of low to high items."""
    return isinstance(value, tuple) and low <= len(value) <= high


def has_doubles(rows):
    """Whether two items of a list are the same (of strings, numbers and tuples of such)."""
    return len(set(rows)) < len(rows)
