"""Which temps are alive where."""

from labelclocks.blocks import told_backward, told_last
from labelclocks.errors import BadSpot, BadTemp
from labelclocks.given import road_to
from labelclocks.loose import is_temp
from labelclocks.rows import need_code
from labelclocks.steps import goals_of, temp_given, temp_given_last, temps_read, temps_read_last
from labelclocks.values import is_within


def alive_at(rows, f, block, at):
    """The ascending tuple of the temps that are alive at a spot."""
    _need_spot(rows, f, block, at)
    blocks = rows[5][f][4]
    told = told_last(blocks[block][2], alive_in(blocks))
    for step in reversed(blocks[block][1][at:]):
        step_back(step, told)
    return tuple(sorted(told))


def road_to_read(rows, f, block, at, temp):
    """A shortest road of blocks from a spot to one that reads a temp alive there, None if it is not alive."""
    _need_spot(rows, f, block, at)
    if not is_temp(temp):
        raise BadTemp("no temp")
    blocks = rows[5][f][4]
    _, steps, ending = blocks[block]
    if _reads_first(steps[at:], ending, temp):
        return [block]
    if _gives(steps[at:], ending, temp):
        return None
    # from each block met to the one ahead of it, None for the goals of the first one
    ahead = {goal: None for goal in goals_of(ending)}
    waiting = list(ahead)
    met = 0
    while met < len(waiting):
        current = waiting[met]
        met += 1
        _, steps, ending = blocks[current]
        if _reads_first(steps, ending, temp):
            return [block] + road_to(current, ahead)
        if not _gives(steps, ending, temp):
            for goal in goals_of(ending):
                if goal not in ahead:
                    ahead[goal] = current
                    waiting.append(goal)
    return None


def _need_spot(rows, f, block, at):
    need_code(rows, f)
    blocks = rows[5][f][4]
    if not is_within(block, 0, len(blocks) - 1) or not is_within(at, 0, len(blocks[block][1])):
        raise BadSpot("no spot")


def _reads_first(steps, ending, temp):
    """Whether steps or the ending behind them read a temp ahead of any step that gives it."""
    for step in steps:
        if temp in temps_read(step):
            return True
        if temp_given(step) == temp:
            return False
    return temp in temps_read_last(ending)


def _gives(steps, ending, temp):
    """Whether a step gives a temp, or the ending does on the way to its goal."""
    return temp_given_last(ending) == temp or temp in [temp_given(step) for step in steps]


def alive_in(blocks):
    """For each block of a code the dict of True with the temps that are alive as it begins."""
    return told_backward(blocks, step_back)


def step_back(step, told):
    """Makes what is alive behind a step what is alive ahead of it."""
    told.pop(temp_given(step), None)
    for temp in temps_read(step):
        told[temp] = True
