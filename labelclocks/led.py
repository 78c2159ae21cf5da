"""Led code: what it costs between two marks hangs on nothing but the marks."""

from labelclocks.cellways import ways_behind
from labelclocks.errors import NotLed
from labelclocks.objects import need_object

# the room and the door's mark
FIRST_CELLS = 2


def is_led(thing):
    """Whether all code of an object is led."""
    need_object(thing)
    return are_led([thing])


def are_led(objects):
    """Whether all code of right objects is led."""
    return all([_is_led(function[4]) for thing in objects for function in thing[6]])


def need_led(objects):
    """Raises NotLed unless all code of right objects is led."""
    if not are_led(objects):
        raise NotLed("code that is not led")


def _is_led(cells):
    ways = [ways_behind(cells, at) for at in range(len(cells))]
    times = [0] * len(cells)
    for goals in ways:
        for goal in goals:
            if goal >= len(cells):
                return False
            times[goal] += 1
    # only the room leads to the door's mark, and nothing to the room
    if times[:FIRST_CELLS] != [0, 1]:
        return False
    for at, cell in enumerate(cells):
        if cell[0] == "unless" and cell[2] == at + 1:
            return False
        if cell[0] == "unless" or cell[0] == "call":
            if not all([_leads_alone(cells, times, goal) for goal in ways[at]]):
                return False
    return not _has_bare_ring(cells, ways)


def _leads_alone(cells, times, at):
    """Whether jumps alone lead from a cell to a mark, and nothing else to any of these."""
    while cells[at][0] == "jump" and times[at] == 1:
        at = cells[at][1]
    return cells[at][0] == "mark" and times[at] == 1


def _has_bare_ring(cells, ways):
    """Whether a way of cells comes round without a mark."""
    bare = [at for at, cell in enumerate(cells) if cell[0] != "mark"]
    times = [0] * len(cells)
    for at in bare:
        for goal in ways[at]:
            times[goal] += 1
    free = [at for at in bare if times[at] == 0]
    done = 0
    while free:
        done += 1
        for goal in ways[free.pop()]:
            times[goal] -= 1
            if times[goal] == 0 and cells[goal][0] != "mark":
                free.append(goal)
    return done < len(bare)
