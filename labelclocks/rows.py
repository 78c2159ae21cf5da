"""Judges rows of blocks."""

from labelclocks.blocks import goal_counts, has_label_twice
from labelclocks.errors import BadFunction, BadRows
from labelclocks.given import lack_in, ring_in
from labelclocks.loose import is_loose
from labelclocks.steps import goals_of
from labelclocks.values import is_whole


def is_rows(value):
    """Whether any value is rows."""
    if not is_loose(value):
        return False
    if has_label_twice(value[5]):
        return False
    for code in value[5]:
        if not are_goals_right(code) or ring_in(code) is not None or lack_in(code) is not None:
            return False
    return True


def are_goals_right(code):
    """Whether block 0 and the goals of tests and calls have labels and are led to as they have to be."""
    times = goal_counts(code[4])
    if code[4][0][0] is None or times[0] > 0:
        return False
    for _, _, ending in code[4]:
        if ending[0] == "test" or ending[0] == "call":
            for goal in goals_of(ending):
                if code[4][goal][0] is None or times[goal] > 1:
                    return False
    return True


def need_rows(rows):
    """Raises BadRows unless rows are rows."""
    if not is_rows(rows):
        raise BadRows("no rows")


def need_code(rows, f):
    """Raises BadRows, BadFunction unless f is the number of a code of rows."""
    need_rows(rows)
    if not is_whole(f) or not 0 <= f < len(rows[5]):
        raise BadFunction("no number of a code")
