"""Labels and stations as they stand in rows of blocks and in code."""

from labelclocks.values import is_tuple_of, is_tuple_within, is_within

MOST_FUNCTION = 5
MOST_NUMBER = 999
MOST_MARKS = 8
MARKS = ("at", "first", "later")


def is_code_label(value):
    """Whether any value is a code label (f, k, way)."""
    if not is_tuple_of(value, 3) or not is_station(value[:2]):
        return False
    way = value[2]
    return is_tuple_within(way, 0, MOST_MARKS) and all([is_mark(mark) for mark in way])


def is_station(value):
    """Whether any value is a station (f, s)."""
    return is_tuple_of(value, 2) and is_within(value[0], 0, MOST_FUNCTION) and is_within(value[1], 0, MOST_NUMBER)


def is_mark(value):
    """Whether any value is a mark of a way."""
    return is_tuple_of(value, 3) and value[0] in MARKS and is_station(value[1:])
