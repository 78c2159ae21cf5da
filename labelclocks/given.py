"""Rings of blocks without labels, and temps that are read without having been given."""

from labelclocks.errors import BadFunction, BadRows
from labelclocks.loose import is_loose
from labelclocks.steps import goals_of, temp_given, temp_given_last, temps_read, temps_read_last
from labelclocks.values import is_whole


def unmarked(rows, f):
    """A ring of blocks without labels in a code, None if there is none."""
    _need_code(rows, f)
    return ring_in(rows[5][f])


def lacking(rows, f):
    """A pair (temp, road) of a temp that is read at the end of a road that does not give it, None if there is none."""
    _need_code(rows, f)
    return lack_in(rows[5][f])


def _need_code(rows, f):
    if not is_loose(rows):
        raise BadRows("no rows")
    if not is_whole(f) or not 0 <= f < len(rows[5]):
        raise BadFunction("no number of a code")


def _bare_goals(code, block):
    """The goals of a block that have no label."""
    return [goal for goal in goals_of(code[4][block][2]) if code[4][goal][0] is None]


def ring_in(code):
    """A ring of blocks without labels in a code of loose rows, None if there is none."""
    # True for those that no ring goes through
    done = {}
    for first in range(len(code[4])):
        if code[4][first][0] is None and first not in done:
            ring = _ring_from(code, first, done)
            if ring is not None:
                return ring
    return None


def _ring_from(code, first, done):
    """A ring among the blocks without labels to which this one leads; all of them are done if there is none."""
    road = [first]
    # the goals that are still to be tried, for each block of the road
    left = [_bare_goals(code, first)]
    while road:
        if not left[-1]:
            done[road.pop()] = True
            left.pop()
            continue
        goal = left[-1].pop()
        if goal in road:
            return road[road.index(goal):]
        if goal not in done:
            road.append(goal)
            left.append(_bare_goals(code, goal))
    return None


def lack_in(code):
    """As lacking, of a code of loose rows."""
    params = list(range(len(code[1])))
    wants = []
    gifts = []
    for _, steps, ending in code[4]:
        wanted, given = _wants_and_gifts(steps, ending)
        wants.append(wanted)
        gifts.append(given)
    asked = {}
    for wanted in wants:
        for temp in wanted:
            if temp not in params:
                asked[temp] = True
    for temp in asked:
        road = _road_without(code, temp, wants, gifts)
        if road is not None:
            return temp, road
    return None


def _wants_and_gifts(steps, ending):
    """The temps that a block reads without having given them ahead in itself, and those that it gives, as dicts."""
    wanted = {}
    given = {}
    for step in steps:
        for temp in temps_read(step):
            if temp not in given:
                wanted[temp] = True
        if temp_given(step) is not None:
            given[temp_given(step)] = True
    for temp in temps_read_last(ending):
        if temp not in given:
            wanted[temp] = True
    if temp_given_last(ending) is not None:
        given[temp_given_last(ending)] = True
    return wanted, given


def _road_without(code, temp, wants, gifts):
    """A road from block 0 to one that wants a temp which none ahead on the road gives, None if there is none."""
    # from each block met to the one ahead of it
    ahead = {0: None}
    waiting = [0]
    while waiting:
        block = waiting.pop()
        if temp in wants[block]:
            return road_to(block, ahead)
        if temp not in gifts[block]:
            for goal in goals_of(code[4][block][2]):
                if goal not in ahead:
                    ahead[goal] = block
                    waiting.append(goal)
    return None


def road_to(block, ahead):
    """The road to a block, by the blocks ahead."""
    road = []
    while block is not None:
        road.append(block)
        block = ahead[block]
    road.reverse()
    return road
