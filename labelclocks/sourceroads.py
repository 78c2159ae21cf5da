"""The roads of labels in the source, data left out, and which labels can follow one another."""

from labelclocks.errors import BadLabels, BadProgram, BadUnit
from labelclocks.sourcecode import code_of
from labelclocks.tapes import MOST_ITEMS
from labelclocks.units import is_program, is_unit
from labelclocks.values import has_doubles, is_list, is_tuple_of, is_tuple_within, is_whole, is_within

MOST_FUNCTIONS = 6
MOST_LABELS = 151
MOST_STATION = 149
MOST_USE = 5
# at which index of an order its station stands
STATION_AT = {"item": 3, "over": 1, "rest": 1, "show": 2, "ask": 1, "fail": 2}


def road_book(unit):
    """For each function, for each of its labels, the triple (stations, ending, loops) of its road."""
    if not is_unit(unit):
        raise BadUnit("no unit")
    return book_of(unit)


def book_of(unit):
    """The road book of a unit that is known to be right."""
    book = []
    for f in range(len(unit[4])):
        code = code_of(unit, f)
        book.append(tuple([_road(code, k) for k in range(len(code.loops))]))
    return tuple(book)


def _road(code, k):
    """The road of a label."""
    stations = []
    at = code.starts[k] + 1
    ending = None
    while ending is None:
        order = code.orders[at]
        if order[0] in STATION_AT:
            stations.append(order[STATION_AT[order[0]]])
        ending = _ending(order)
        at = order[1] if order[0] == "jump" else at + 1
    return tuple(stations), ending, code.loops[k]


def _ending(order):
    """The ending that an order is, None if the road goes on behind it."""
    if order[0] == "test":
        return "arms", order[1], order[1] + 1
    if order[0] == "call":
        return "call", order[1], order[3]
    if order[0] == "give" or order[0] == "fail":
        return (order[0],)
    return None


def is_road_book(value):
    """Whether any value has the form of a road book."""
    if not is_tuple_within(value, 1, MOST_FUNCTIONS):
        return False
    for roads in value:
        if not is_tuple_within(roads, 1, MOST_LABELS):
            return False
        if not all([_is_road(road, len(roads), len(value)) for road in roads]):
            return False
    return True


def _is_road(value, labels, functions):
    """Whether value is a road in a function of so many labels, in a book of so many functions."""
    if not is_tuple_of(value, 3) or not _is_ending(value[1], labels, functions):
        return False
    stations, _, loops = value
    if not _are_within(stations, MOST_STATION) or not _are_within(loops, labels - 1):
        return False
    return not has_doubles(stations) and not has_doubles(loops) and sorted(loops) == list(loops)


def _are_within(value, most):
    """Whether value is a tuple of wholes from 0 to most."""
    return isinstance(value, tuple) and all([is_within(n, 0, most) for n in value])


def _is_ending(value, labels, functions):
    if not is_tuple_within(value, 1, 3):
        return False
    if len(value) == 1:
        return value[0] == "give" or value[0] == "fail"
    if len(value) == 2 or not is_within(value[2], 0, labels - 1):
        return False
    if value[0] == "arms":
        return is_whole(value[1]) and value[1] >= 0 and value[2] == value[1] + 1
    return value[0] == "call" and _is_callee(value[1], functions)


def _is_callee(value, functions):
    if not is_tuple_of(value, 2):
        return False
    if value[0] == "own":
        return is_within(value[1], 0, functions - 1)
    return value[0] == "use" and is_within(value[1], 0, MOST_USE)


def follows(program, labels):
    """The labels that can come behind a list of labels, data left out."""
    if not is_program(program):
        raise BadProgram("no program")
    if not is_list(labels) or len(labels) > MOST_ITEMS:
        raise BadLabels(-1)
    walk = Walk(program)
    for at, label in enumerate(labels):
        if not walk.can_meet(label):
            raise BadLabels(at)
        walk.meet(label)
    return list(walk.ahead)


class Walk:
    """A walk along the labels of a program."""

    def __init__(self, program):
        self.units = program
        self.books = {unit[0]: book_of(unit) for unit in program}
        # the labels back of the calls that are not over, and the labels that can come next
        self.backs = []
        self.ahead = [self.door(program[0][0], "main")]

    def door(self, name, function):
        """The label door of a function of the unit with a name."""
        for unit in self.units:
            names = [told[0] for told in unit[4]]
            if unit[0] == name:
                return name, names.index(function), 0
        return None

    def can_meet(self, label):
        """Whether any value is a label that can come next."""
        if not is_tuple_of(label, 3) or not is_whole(label[1]) or not is_whole(label[2]):
            return False
        return label in self.ahead

    def meet(self, label):
        """Goes on along the road of a label to where the next one stands."""
        name, f, k = label
        ending = self.books[name][f][k][1]
        if ending[0] == "arms":
            self.ahead = [(name, f, ending[1]), (name, f, ending[2])]
        elif ending[0] == "call":
            self.backs.append((name, f, ending[2]))
            self.ahead = [self.callee_door(name, ending[1])]
        elif ending[0] == "give" and self.backs:
            self.ahead = [self.backs.pop()]
        else:
            self.ahead = []

    def callee_door(self, name, callee):
        """The door of a callee that a unit calls."""
        if callee[0] == "own":
            return name, callee[1], 0
        uses = [unit[2] for unit in self.units if unit[0] == name][0]
        return self.door(uses[callee[1]][0], uses[callee[1]][1])
