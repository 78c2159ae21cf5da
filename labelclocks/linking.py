"""Links objects to images."""

from labelclocks.errors import BadNeeded, BadRoom, NoStore, TooLarge
from labelclocks.images import MOST_IMAGE_CELLS, MOST_STORE_WORDS, is_room
from labelclocks.objectlists import callee_met, main_of, need_joined, need_objects

# the cells ahead of all functions: the call of main, and halt
AHEAD = 2
GOAL_WORDS = ("jump", "unless")
CALL_WORDS = ("call", "last")
STATION_WORDS = ("check", "divisor", "show", "ask", "fail")


def linked(objects, main, room, needed=False):
    """The image of objects; with needed True, without the functions that main does not need."""
    layout = _laid_out(objects, main, room, needed)
    cells = [("call", layout.starts[main_of(objects, main)], 0), ("halt",)]
    for u, f in layout.starts:
        for cell in objects[u][6][f][4]:
            cells.append(layout.with_addresses(u, f, cell))
    registers = max([thing[3] for thing in objects])
    return "image", objects[0][2], registers, layout.words, room, tuple(cells)


def addresses(objects, main, room, needed=False):
    """The dict from the pairs (unit, f) of the functions that are there to the addresses of their first cells."""
    starts = _laid_out(objects, main, room, needed).starts
    found = {(objects[u][1], f): starts[(u, f)] for u, f in starts}
    return {pair: found[pair] for pair in sorted(found)}


def store_at(objects, unit, x):
    """The address of the first word of a store."""
    need_objects(objects)
    if isinstance(unit, str) and isinstance(x, str):
        points = store_points(objects)
        for u, thing in enumerate(objects):
            if thing[1] == unit and (u, x) in points:
                return points[(u, x)]
    raise NoStore(unit, x)


def store_points(objects):
    """The addresses of the first words of all stores, by numbers of objects and names."""
    points = {}
    words = 0
    for u, thing in enumerate(objects):
        for x, many in thing[5]:
            points[(u, x)] = words
            words += many
    return points


def _laid_out(objects, main, room, needed):
    """Where all that objects consist of stands in their image."""
    need_objects(objects)
    if not is_room(room):
        raise BadRoom("no room")
    if needed is not True and needed is not False:
        raise BadNeeded("neither True nor False")
    need_joined(objects, main)
    layout = Layout(objects, _functions_needed(objects, main) if needed else None)
    if layout.many > MOST_IMAGE_CELLS or layout.words > MOST_STORE_WORDS:
        raise TooLarge("too many cells or words of stores")
    return layout


def _functions_needed(objects, main):
    """A dict of True with the numbers of the functions to which calls lead from main, and of main's own."""
    found = {main_of(objects, main): True}
    waiting = list(found)
    while waiting:
        u, f = waiting.pop()
        for cell in objects[u][6][f][4]:
            if cell[0] in CALL_WORDS:
                called = callee_met(objects, u, cell[1])
                if called not in found:
                    found[called] = True
                    waiting.append(called)
    return found


class Layout:
    """Where the functions and stores of objects stand; kept tells which functions are there, None for all."""

    def __init__(self, objects, kept):
        self.things = objects
        # the addresses of first cells, by the numbers of objects and functions
        self.starts = {}
        self.many = AHEAD
        for u, thing in enumerate(objects):
            for f, function in enumerate(thing[6]):
                if kept is None or (u, f) in kept:
                    self.starts[(u, f)] = self.many
                    self.many += len(function[4])
        self.points = store_points(objects)
        self.words = sum([many for thing in objects for _, many in thing[5]])

    def with_addresses(self, u, f, cell):
        """The cell of a function as it stands in the image."""
        word = cell[0]
        name = self.things[u][1]
        if word == "mark":
            return word, name, cell[1]
        if word == "store":
            return "point", cell[1], self.points[(u, cell[2])]
        if word in GOAL_WORDS:
            return cell[:-1] + (self.starts[(u, f)] + cell[-1],)
        if word in CALL_WORDS:
            return (word, self.starts[callee_met(self.things, u, cell[1])]) + cell[2:]
        if word in STATION_WORDS:
            return cell[:-1] + ((name,) + cell[-1],)
        return cell
