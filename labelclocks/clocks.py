"""The machine's clock, told by the labels of the source and their prices."""

from labelclocks.books import need_book
from labelclocks.codelabels import is_station
from labelclocks.errors import BadTrace
from labelclocks.heads import MOST_SIZE
from labelclocks.led import need_led
from labelclocks.loose import MOST_FAIL, MOST_PORT
from labelclocks.objectlists import need_objects
from labelclocks.prices import price_table
from labelclocks.reading import Walk
from labelclocks.values import is_list, is_tuple_of, is_tuple_within, is_within

# the words that a call puts ahead of a frame
LINK_WORDS = 2


def foretold(objects, book, trace, stations):
    """The list of triples (item, clock, stack) that the machine shows for a trace of the source."""
    need_objects(objects)
    need_book(book)
    need_led(objects)
    if not is_list(trace) or not is_list(stations) or len(trace) != len(stations):
        raise BadTrace("no lists of equal length")
    teller = Teller(objects, book)
    for item, station in zip(trace, stations):
        if not teller.can_meet(item, station):
            raise BadTrace("an item that does not fit")
        teller.meet(item, station)
    return teller.told_items


def is_item(value):
    """Whether any value has the form of an item of the source; of a label all but its being one."""
    if not is_tuple_within(value, 1, 3):
        return False
    word = value[0]
    if len(value) == 1:
        return word == "end"
    if len(value) == 3:
        return word == "shown" and is_within(value[1], 0, MOST_PORT) and is_within(value[2], 0, MOST_SIZE - 1)
    if word == "asked":
        return is_within(value[1], 0, MOST_SIZE - 1)
    if word == "failed":
        return value[1] in ("bounds", "zero") or is_within(value[1], 0, MOST_FAIL)
    return word == "label"


class Teller:
    """Goes along a trace of the source and tells what the machine shows."""

    def __init__(self, objects, book):
        self.book_told = book
        self.tables = {thing[1]: price_table(thing, book) for thing in objects}
        self.frame_words = {(thing[1], f): told[3] for thing in objects for f, told in enumerate(thing[6])}
        self.walk = Walk({thing[1]: (thing[7], thing[8]) for thing in objects})
        self.told_items = []
        # the beats of the beginning and of all labels ahead of the last one that has a mark
        self.ahead = book["call"]
        # the price of the last label; None ahead of the first one
        self.price = None
        # the words of the stack below each frame, outermost first
        self.below = [LINK_WORDS]

    def can_meet(self, item, station):
        """Whether any values are an item that can come next, and its station."""
        if not is_item(item):
            return False
        if item[0] == "label":
            return self.walk.can_meet(item[1])
        if self.price is None:
            return False
        return item == ("end",) or self.beats_at(station) is not None

    def beats_at(self, station):
        """The beats of a station since the last label's lead began, None if it is none of its stretch."""
        unit = self.walk.opened[-1].unit
        if not is_tuple_of(station, 3) or station[0] != unit or not is_station(station[1:]):
            return None
        return dict(reversed(self.price[1])).get(station[1:])

    def meet(self, item, station):
        """Tells the item that comes next."""
        if item[0] == "label":
            self.meet_label(item[1])
        elif item == ("end",):
            self.tell(item, self.ahead + self.price[2] + self.book_told["halt"], 0)
        else:
            self.tell(item, self.ahead + self.beats_at(station), self.below[-1])

    def meet_label(self, label):
        """Tells the label that comes next, if it has a mark."""
        written = self.walk.meet(label)
        self.count_frames()
        if self.price is not None:
            self.ahead += self.price[2]
        # of a way back without a mark
        self.price = (0, (), 0)
        if written is None:
            return
        unit, code_label = written
        if code_label not in self.tables[unit]:
            raise BadTrace("a label without a mark")
        self.price = self.tables[unit][code_label]
        self.tell(("label", unit, code_label), self.ahead + self.price[0], self.below[-1])

    def count_frames(self):
        """Brings the words below frames up to date: one frame may have come or gone, or taken another one's place."""
        framed = self.walk.framed
        if len(framed) > len(self.below):
            self.below.append(self.below[-1] + self.frame_words[framed[-2]] + LINK_WORDS)
        elif len(self.below) > max(1, len(framed)):
            self.below.pop()

    def tell(self, item, clock, stack):
        """A further item of the machine."""
        self.told_items.append((item, clock, stack))
