"""Judges rows of blocks."""

from labelclocks.given import lack_in, ring_in
from labelclocks.loose import is_loose
from labelclocks.steps import goals_of
from labelclocks.values import has_doubles


def is_rows(value):
    """Whether any value is rows."""
    if not is_loose(value):
        return False
    if has_doubles([block[0] for code in value[5] for block in code[4] if block[0] is not None]):
        return False
    for code in value[5]:
        if not _are_goals_right(code) or ring_in(code) is not None or lack_in(code) is not None:
            return False
    return True


def _are_goals_right(code):
    """Whether block 0 and the goals of tests and calls have labels and are led to as they have to be."""
    times = [0] * len(code[4])
    for _, _, ending in code[4]:
        for goal in goals_of(ending):
            times[goal] += 1
    if code[4][0][0] is None or times[0] > 0:
        return False
    for _, _, ending in code[4]:
        if ending[0] == "test" or ending[0] == "call":
            for goal in goals_of(ending):
                if code[4][goal][0] is None or times[goal] > 1:
                    return False
    return True
