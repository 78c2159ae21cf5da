"""Readings: what labels of the source are written as in code that passes have made.

The top of an activation is a triple (f, base, marks), see [45]: marks are those of the peeled loops around the label
where it stands, so that they tell how often the rounds of these were met.
"""

from labelclocks.codelabels import MOST_FUNCTION, is_code_label, is_mark
from labelclocks.errors import BadLabels, BadReadings, BadTop
from labelclocks.kinds import is_name
from labelclocks.sourceroads import is_road_book
from labelclocks.tapes import MOST_ITEMS
from labelclocks.values import is_list, is_tuple_of, is_within

FIRST = "first"
LATER = "later"


def is_reading(value):
    """Whether any value is a reading."""
    return is_tuple_of(value, 3) and all([_are_labels(part) for part in value])


def _are_labels(value):
    """Whether value is an ascending tuple of code labels without doubles."""
    if not isinstance(value, tuple) or not all([is_code_label(label) for label in value]):
        return False
    return all([value[at] < value[at + 1] for at in range(len(value) - 1)])


def need_readings(readings):
    """Raises BadReadings unless readings are some."""
    if not isinstance(readings, dict):
        raise BadReadings("no dict")
    for name in readings:
        told = readings[name]
        if not is_name(name) or not is_tuple_of(told, 2) or not is_reading(told[0]) or not is_road_book(told[1]):
            raise BadReadings("no pair of a reading and a book of roads by the name of a unit")


def is_round(roads, f, k):
    """Whether two wholes from 0 on are a function of a road book and the number of a round of it."""
    return f < len(roads) and k < len(roads[f]) and k in roads[f][k][2]


class Reader:
    """Tells what the labels of the activations of one unit are written as."""

    def __init__(self, reading, roads):
        laid, peeled, last = reading
        self.laid = {label: True for label in laid}
        self.peeled = {label: True for label in peeled}
        self.last = {label: True for label in last}
        self.roads = roads

    def marks_at(self, top, k):
        """The marks of the peeled loops around the label k that comes next in an activation."""
        f, base, marks = top
        found = ()
        for turn in self.roads[f][k][2]:
            if (f, turn, base + found) in self.peeled:
                mark = FIRST
                if _tells_round(marks, len(found), f, turn):
                    mark = LATER if turn == k else marks[len(found)][0]
                found += ((mark, f, turn),)
        return found

    def way_at(self, top, k):
        """The way at the label k that comes next in an activation, the mark of an out left out."""
        return top[1] + self.marks_at(top, k)

    def entered(self, top, k, f):
        """The top of an activation of f that begins by the call with the way back k."""
        way = self.way_at(top, k)
        if (top[0], k, way) in self.laid:
            return f, way + (("at", top[0], k),), ()
        return f, (), ()

    def is_last(self, top, k):
        """Whether the call with the way back k is one in last place."""
        return (top[0], k, self.way_at(top, k)) in self.last

    def turned(self, top, k):
        """The pair of what the label k is written as, None for nothing, and the top behind it."""
        f, base, marks = top
        found = self.marks_at(top, k)
        way = base + found
        # the number of a round is followed by that of its out
        if k > 0 and is_round(self.roads, f, k - 1) and (f, k - 1, way) in self.peeled:
            mark = LATER if _tells_round(marks, len(found), f, k - 1) else FIRST
            way += ((mark, f, k - 1),)
        written = None if (f, k, way) in self.last else (f, k, way)
        return written, (f, base, found)


def _tells_round(marks, at, f, turn):
    """Whether the mark at an index tells that this round was met since its loop was begun."""
    return at < len(marks) and marks[at][0] != "at" and marks[at][1:] == (f, turn)


class Activation:
    """A call in a run of the source that is not over."""

    def __init__(self, unit, top):
        self.unit = unit
        self.top = top
        # the number of its last label
        self.label = 0
        self.has_frame = top[1] == ()


class Walk:
    """A walk along the labels of a run."""

    def __init__(self, readings):
        self.readers = {name: Reader(readings[name][0], readings[name][1]) for name in readings}
        # empty only ahead of the first label
        self.opened = []
        # the pairs (unit, f) of the activations that have frames, outermost first
        self.framed = []

    def ending(self):
        """The ending of the road of the last label."""
        last = self.opened[-1]
        return self.readers[last.unit].roads[last.top[0]][last.label][1]

    def can_meet(self, label):
        """Whether any value is a label that can come next."""
        if not is_tuple_of(label, 3) or not isinstance(label[0], str) or label[0] not in self.readers:
            return False
        unit, f, k = label
        roads = self.readers[unit].roads
        if not is_within(f, 0, len(roads) - 1) or not is_within(k, 0, len(roads[f]) - 1):
            return False
        return self.can_come(unit, f, k) if self.opened else k == 0

    def can_come(self, unit, f, k):
        """Whether a label can come behind the last one."""
        last = self.opened[-1]
        ending = self.ending()
        if ending[0] == "arms":
            return (unit, f) == (last.unit, last.top[0]) and (k == ending[1] or k == ending[2])
        if ending[0] == "call":
            kind, called = ending[1]
            return k == 0 and (unit != last.unit if kind == "use" else (unit, f) == (last.unit, called))
        if ending[0] == "fail" or len(self.opened) < 2:
            return False
        last = self.opened[-2]
        # the road of the label ahead of a call tells its way back
        back = self.readers[last.unit].roads[last.top[0]][last.label][1][2]
        return (unit, f, k) == (last.unit, last.top[0], back)

    def meet(self, label):
        """Goes on behind a label; tells the pair (unit, code label) or None."""
        unit, f, k = label
        if not self.opened:
            self.begin(unit, (f, (), ()))
        elif self.ending()[0] == "call":
            self.enter(unit, f)
        elif self.ending()[0] == "give":
            self.leave_frame()
            self.opened.pop()
        last = self.opened[-1]
        written, last.top = self.readers[unit].turned(last.top, k)
        last.label = k
        return None if written is None else (unit, written)

    def enter(self, unit, f):
        """Begins the activation that the last label's road calls."""
        last = self.opened[-1]
        reader = self.readers[last.unit]
        back = self.ending()[2]
        if reader.is_last(last.top, back):
            self.leave_frame()
        self.begin(unit, reader.entered(last.top, back, f))

    def begin(self, unit, top):
        """Begins an activation."""
        self.opened.append(Activation(unit, top))
        if self.opened[-1].has_frame:
            self.framed.append((unit, top[0]))

    def leave_frame(self):
        """Takes the frame of the innermost activation away, if it has one."""
        if self.opened[-1].has_frame:
            # those further in are over, so its frame is the last one
            self.framed.pop()
            self.opened[-1].has_frame = False


def _walk_to_begin(readings, labels):
    """A walk ahead of the first one of labels; BadReadings, BadLabels unless they are a list."""
    need_readings(readings)
    if not is_list(labels) or len(labels) > MOST_ITEMS:
        raise BadLabels(-1)
    return Walk(readings)


def read(readings, labels):
    """The list with for each label the pair (unit, code label) as which it is written, or None."""
    walk = _walk_to_begin(readings, labels)
    found = []
    for at, label in enumerate(labels):
        if not walk.can_meet(label):
            raise BadLabels(at)
        found.append(walk.meet(label))
    return found


def frames(readings, labels):
    """The list with for each label the list of pairs (unit, f) for the frames that there are behind it."""
    walk = _walk_to_begin(readings, labels)
    found = []
    for at, label in enumerate(labels):
        if not walk.can_meet(label):
            raise BadLabels(at)
        walk.meet(label)
        found.append(list(walk.framed))
    return found


def entered(readings, unit, top, k, f):
    """The top of an activation of f that begins by the call with the way back k of the one with this top."""
    reader = _reader_of(readings, unit, top, k)
    if not is_within(f, 0, MOST_FUNCTION):
        raise BadTop("no function")
    return reader.entered(top, k, f)


def turned(readings, unit, top, k):
    """The pair of what the label k is written as and the top behind it."""
    return _reader_of(readings, unit, top, k).turned(top, k)


def _reader_of(readings, unit, top, k):
    """The reader for a unit; BadReadings, BadTop unless top is one of it and k the number of a label."""
    need_readings(readings)
    if not isinstance(unit, str) or unit not in readings:
        raise BadTop("no unit")
    if not is_tuple_of(top, 3) or not _are_marks(top[1]) or not _are_marks(top[2]):
        raise BadTop("no triple of a function and tuples of marks")
    reading, roads = readings[unit]
    if not is_within(top[0], 0, len(roads) - 1) or not is_within(k, 0, len(roads[top[0]]) - 1):
        raise BadTop("no function, or no label of it")
    return Reader(reading, roads)


def _are_marks(value):
    """Whether value is a tuple of marks."""
    return isinstance(value, tuple) and all([is_mark(mark) for mark in value])
