"""The web of what the code of an image can do, data left out, whoever made it."""

from labelclocks.books import need_book
from labelclocks.errors import BadImage, TooMany
from labelclocks.images import is_image, reads_in_image
from labelclocks.machine import WAITED_FOR
from labelclocks.webs import MOST_NETS, MOST_PLACES

# start, first cell and end
LEAST_PLACES = 3


def web_of(image, book):
    """The triple (web, places, marks) of what an image can do."""
    if not is_image(image):
        raise BadImage("no image")
    need_book(book)
    walker = Walker(image[5], book)
    walker.walk_all()
    return walker.told()


class Walker:
    """Finds the spots that are reached: pairs of an address and the register that is waited for, or None."""

    def __init__(self, cells, book):
        self.code = cells
        self.price_book = book
        # the addresses at which nets begin; the beginning, which is net 0, is None
        self.net_begins = [None]
        # by these, the dict of True with the spots that are reached
        self.spots_met = {}
        self.many = 0

    def walk_all(self):
        """Finds all spots of all nets."""
        done = 0
        while done < len(self.net_begins):
            self.walk_net(self.net_begins[done])
            done += 1

    def walk_net(self, begin):
        """Finds the spots of a net, and the nets that it calls."""
        first = (0 if begin is None else begin, None)
        met = {first: True}
        self.spots_met[begin] = met
        self.count_more(LEAST_PLACES)
        waiting = [first]
        while waiting:
            spot = waiting.pop()
            for goal, call, _, _ in self.ways(begin, spot):
                if call is not None and call not in self.net_begins:
                    self.net_begins.append(call)
                if goal is not None and goal not in met:
                    met[goal] = True
                    self.count_more(1)
                    waiting.append(goal)

    def count_more(self, many):
        """Counts places, and asks whether there are too many, or too many nets."""
        self.many += many
        if self.many > MOST_PLACES or len(self.spots_met) > MOST_NETS:
            raise TooMany(MOST_PLACES)

    def ways(self, begin, spot):
        """The edges from a spot of a net: tuples of the next spot, None for the end, the call, beats and mark."""
        at, waiting = spot
        cell = self.code[at]
        word = cell[0]
        if word == "mark":
            return self.behind(at, None, None, 0, cell[1:])
        beats = self.price_book["store" if word == "point" else word]
        if waiting is not None and reads_in_image(cell, waiting):
            beats += self.price_book["wait"]
        if word == "unless":
            taken = ((cell[2], None), None, beats + self.price_book["taken"], None)
            return self.behind(at, None, None, beats, None) + [taken]
        if word == "jump" or word == "last":
            return [((cell[1], None), None, beats, None)]
        if word == "return" or word == "halt":
            is_end = (word == "halt") == (begin is None)
            return [(None, None, beats, None)] if is_end else []
        if word == "fail":
            return []
        loaded = cell[1] if word in WAITED_FOR else None
        return self.behind(at, loaded, cell[1] if word == "call" else None, beats, None)

    def behind(self, at, loaded, call, beats, mark):
        """The one edge to the cell behind an address, none if there is no such cell."""
        return [((at + 1, loaded), call, beats, mark)] if at + 1 < len(self.code) else []

    def told(self):
        """The triple (web, places, marks) of what was found."""
        begins = [None] + sorted(self.net_begins[1:])
        numbers = {begin: net for net, begin in enumerate(begins)}
        spots = [sorted(self.spots_met[begin], key=_place_order) for begin in begins]
        marks = {self.code[at][1:]: True for net in spots for at, _ in net if self.code[at][0] == "mark"}
        labels = {mark: number + 1 for number, mark in enumerate(sorted(marks))}
        nets = [self.net_told(begin, spots[net], numbers, labels) for net, begin in enumerate(begins)]
        places = tuple([(None,) + tuple(net) + (None,) for net in spots])
        return (len(labels) + 1, tuple(nets)), places, (None,) + tuple(sorted(marks))

    def net_told(self, begin, spots, numbers, labels):
        """A net of the web, with these spots in order."""
        places = {spot: at + 1 for at, spot in enumerate(spots)}
        # the end
        places[None] = len(spots) + 1
        first = (0 if begin is None else begin, None)
        edges = [(0, places[first], None, 0, (0,) if begin is None else ())]
        for spot in spots:
            for goal, call, beats, mark in self.ways(begin, spot):
                called = None if call is None else numbers[call]
                told = () if mark is None else (labels[mark],)
                edges.append((places[spot], places[goal], called, beats, told))
        return len(spots) + 2, tuple(edges)


def _place_order(spot):
    """By what spots are sorted: None stands ahead of registers."""
    return spot[0], -1 if spot[1] is None else spot[1]
