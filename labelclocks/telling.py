"""What the machine of a moment shows, told in the source."""

from labelclocks.clocks import Teller
from labelclocks.errors import TooLong
from labelclocks.meaning import Run
from labelclocks.prices import price_table
from labelclocks.tapes import FAILED, MOST_ITEMS
from labelclocks.texts import label_spots, unit_text


class Telling:
    """The shortest beginning of the program's own run that tells as many items as the machine has shown."""

    def __init__(self, moment):
        self.moment = moment
        row = moment.engine.trace()
        many = len(row)
        if moment.engine.state() == FAILED and row[-1] == ("failed", "room"):
            many -= 1
        self.run = Run(moment.units, moment.given_inputs)
        teller = self.teller(moment.objects())
        self.triples = teller.told_items
        tape = self.run.tape
        while len(self.triples) < many:
            if len(tape.row) >= MOST_ITEMS:
                raise TooLong(MOST_ITEMS)
            self.run.go(1)
            teller.meet(tape.row[-1], tape.marks[-1])

    def teller(self, objects):
        """A teller ahead of the first item, for objects."""
        return Teller(objects, self.moment.price_book)

    def told_by(self, objects):
        """What would be told for other objects."""
        teller = self.teller(objects)
        for item, station in zip(self.run.trace(), self.run.stations()):
            teller.meet(item, station)
        return teller.told_items

    def beside(self, objects):
        """The triples (item, clock, the clock for other objects) for the items that are no labels."""
        one = [triple for triple in self.triples if triple[0][0] != "label"]
        other = [triple for triple in self.told_by(objects) if triple[0][0] != "label"]
        return [(triple[0], triple[1], further[1]) for triple, further in zip(one, other)]

    def profile(self):
        """The ascending list of tuples (unit, label, times, beats)."""
        book = self.moment.price_book
        tables = {thing[1]: price_table(thing, book) for thing in self.moment.objects()}
        times, beats = {}, {}
        ahead, total, name = book["call"], 0, None
        for item, _, _ in self.triples:
            if item[0] == "label":
                if name is not None:
                    beats[name] += total
                    ahead += total
                name = item[1:]
                total = tables[item[1]][item[2]][2]
                times[name] = times.get(name, 0) + 1
                beats.setdefault(name, 0)
        if name is not None:
            item, clock, _ = self.triples[-1]
            beats[name] += clock - ahead - (book["halt"] if item == ("end",) else 0)
        return [name + (times[name], beats[name]) for name in sorted(times)]


def listing_of(unit, thing, book):
    """The list of the lines of a unit's text, each one with the list of the labels that have their spot in it."""
    lines = unit_text(unit).split("\n")
    found = [[] for _ in lines]
    spots = [label_spots(unit, f) for f in range(len(unit[4]))]
    table = price_table(thing, book)
    for label in table:
        found[spots[label[0]][label[1]][0] - 1].append((label, table[label][2]))
    return list(zip(lines, found))
