"""Sides: objects that stand beside others of the same units, and the labels that come behind one another in them."""

from labelclocks.cellways import reached_cells
from labelclocks.errors import BadObjects, BadSides, UnlikeSides
from labelclocks.objectlists import are_objects
from labelclocks.reading import Reader
from labelclocks.values import is_list

MOST_SIDES = 2


def need_sides(sides):
    """Raises BadSides, BadObjects unless sides are a list of one or two lists of objects."""
    if not is_list(sides) or not 1 <= len(sides) <= MOST_SIDES:
        raise BadSides("no list of one or two sides")
    for side in sides:
        if not are_objects(side):
            raise BadObjects("no list of objects")


def need_alike(sides):
    """Raises UnlikeSides unless right sides are of the same units."""
    faces = [_faces(side) for side in sides]
    if faces[0] != faces[-1]:
        raise UnlikeSides("sides of unlike units")


def _faces(side):
    """The dict from the names of units to what must be the same on all sides."""
    return {thing[1]: (thing[4], [function[0] for function in thing[6]], thing[8]) for thing in side}


def reached_marks(thing):
    """The dict of True with the labels whose marks are reached in the code of an object."""
    found = {}
    for function in thing[6]:
        cells = function[4]
        reached = reached_cells(cells)
        for at, cell in enumerate(cells):
            if reached[at] and cell[0] == "mark":
                found[cell[1]] = True
    return found


class Sides:
    """How labels can come behind one another, and what they are read as for each side.

    A net is a triple (unit, f, bases) and a place one (k, marks, counts), see [80]; the start of a net is None.
    """

    def __init__(self, sides, rounds):
        self.things = {thing[1]: thing for thing in sides[0]}
        self.readers = [{thing[1]: Reader(thing[7], thing[8]) for thing in side} for side in sides]
        self.marks = [{thing[1]: reached_marks(thing) for thing in side} for side in sides]
        self.most_rounds = {} if rounds is None else {label: rounds[label] for label in rounds}

    def main_net(self, main):
        """The net of main."""
        return main, self.function_number(main, "main"), ((),) * len(self.readers)

    def function_number(self, unit, function):
        """The number of a function of a unit."""
        names = [told[0] for told in self.things[unit][6]]
        return names.index(function)

    def roads_of(self, net):
        """The roads of the labels of a net's function."""
        return self.things[net[0]][8][net[1]]

    def met(self, net, place, k):
        """The pair of the place behind a label that comes behind a place, and the names of what it is read as.

        None if the label cannot come there.
        """
        unit, f, bases = net
        marks, names = [], []
        for side, readers in enumerate(self.readers):
            told = () if place is None else place[1][side]
            written, top = readers[unit].turned((f, bases[side], told), k)
            if written is not None:
                if written not in self.marks[side][unit]:
                    return None
                names.append((side, unit, written))
            marks.append(top[2])
        counts = self.counted(net, place, k)
        return None if counts is None else ((k, tuple(marks), counts), names)

    def bounded(self, net, k):
        """The rounds of the loops in which a label stands whose rounds are bounded."""
        return [turn for turn in self.roads_of(net)[k][2] if (net[0], net[1], turn) in self.most_rounds]

    def counted(self, net, place, k):
        """The rounds counted behind a label that comes behind a place, None if they are too many."""
        before = {}
        if place is not None:
            before = dict(zip(self.bounded(net, place[0]), place[2]))
        found = []
        for turn in self.bounded(net, k):
            many = before.get(turn, 0) + (1 if turn == k else 0)
            if many > self.most_rounds[(net[0], net[1], turn)]:
                return None
            found.append(many)
        return tuple(found)

    def net_called(self, net, place, callee, back):
        """The net that a call behind a place begins."""
        unit, f = net[0], callee[1]
        if callee[0] == "use":
            unit, function = self.things[net[0]][4][callee[1]][:2]
            f = self.function_number(unit, function)
        bases = []
        for side, readers in enumerate(self.readers):
            top = (net[1], net[2][side], place[1][side])
            bases.append(readers[net[0]].entered(top, back, f)[1])
        return unit, f, tuple(bases)

    def ways(self, net, place):
        """What comes behind a place: triples (next place, None for the end; the net called or None; names)."""
        if place is None:
            found = self.met(net, None, 0)
            return [] if found is None else [(found[0], None, found[1])]
        ending = self.roads_of(net)[place[0]][1]
        if ending[0] == "give":
            return [(None, None, [])]
        if ending[0] == "fail":
            return []
        called = None
        nexts = ending[1:]
        if ending[0] == "call":
            called = self.net_called(net, place, ending[1], ending[2])
            nexts = ending[2:]
        pairs = [self.met(net, place, k) for k in nexts]
        return [(pair[0], called, pair[1]) for pair in pairs if pair is not None]
