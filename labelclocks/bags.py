"""Why prices do not fit a web, or only with some dens: bags of roads."""

from math import gcd

from labelclocks.lattices import Lattice, bezout, joined
from labelclocks.scribes import Scribe

# the key of beats, less than those of labels
BEATS = -1


class Bagger:
    """Works with what complete roads make: dicts from labels, and BEATS, to how much of each there is.

    A row is what an edge makes otherwise than the choice does, or, for the source None, what the complete road by the
    choice makes. The whole sums of rows are those of complete roads. A column is how much all rows have of one key.
    """

    def __init__(self, chart, choice, order):
        self.chart = chart
        self.choice = choice
        self.scribe = Scribe(chart, choice, order)
        # what the roads by the choice through nets make
        self.makings = {}
        ranks = self.scribe.ranks
        starts = [(ranks[start], net) for net, start in enumerate(chart.starts) if start in ranks]
        for _, net in sorted(starts):
            self.makings[net] = self.made_by(self.scribe.own_road(net))
        self.sources = []
        self.rows = []
        self.collect_rows()
        columns = self.columns()
        self.lattice = Lattice()
        for label in range(chart.label_count - 1, -1, -1):
            self.lattice.add(label, columns.get(label, {}))
        # the base of what labels alone make
        self.base = {first: self.lattice.base[first][0] for first in self.lattice.base}
        self.beats_column = columns.get(BEATS, {})
        self.is_fit = self.lattice.add(BEATS, self.beats_column)

    def made_by(self, road):
        """What edges make, with what they call."""
        found = {}
        for at in road:
            self.add_edge(found, at, 1)
        return found

    def add_edge(self, found, at, times):
        """Adds so many times what an edge makes."""
        edge = self.chart.edges[at]
        _add(found, BEATS, times * edge.edge_beats)
        for label in edge.labels:
            _add(found, label, times)
        if edge.called is not None:
            called = self.makings[edge.called]
            for key in called:
                _add(found, key, times * called[key])

    def collect_rows(self):
        """Collects the rows, each one once, and those that are nothing not at all."""
        known = {(): True}
        pairs = [(at, self.unlikeness(at)) for at in self.chart.used if self.choice[self.chart.edges[at].spot] != at]
        if 0 in self.makings:
            pairs.append((None, self.makings[0]))
        for source, row in pairs:
            key = tuple(sorted(row.items()))
            if key not in known:
                known[key] = True
                self.sources.append(source)
                self.rows.append(row)

    def unlikeness(self, at):
        """What the road by an edge makes less what the road by the choice makes; both are followed till they meet."""
        edge = self.chart.edges[at]
        met = {edge.spot: True}
        road = self.scribe.road_from(edge.spot)
        for one in road:
            met[self.chart.edges[one].goal] = True
        found = {}
        self.add_edge(found, at, 1)
        spot = edge.goal
        while spot not in met:
            self.add_edge(found, self.choice[spot], 1)
            spot = self.chart.edges[self.choice[spot]].goal
        for one in road:
            if self.chart.edges[one].spot == spot:
                break
            self.add_edge(found, one, -1)
        return found

    def columns(self):
        """The columns, by keys."""
        found = {}
        for at, row in enumerate(self.rows):
            for key in row:
                found.setdefault(key, {})[at] = row[key]
        return found

    def den_and_prices(self):
        """The least den and the prices, if some fit."""
        relation = self.lattice.relations[BEATS]
        told = self.lattice.without_relations(joined(-1, relation, 0, {}), BEATS)
        return relation[BEATS], tuple([told.get(label, 0) for label in range(self.chart.label_count)])

    def shifts(self):
        """The list of the shifts."""
        found = []
        for label in range(self.chart.label_count):
            if label in self.lattice.relations:
                told = self.lattice.relations[label]
                found.append(tuple([told.get(other, 0) for other in range(self.chart.label_count)]))
        return found

    def bag_against_all(self):
        """The words and weights of a bag by which nothing fits."""
        free = [row for row in self.lattice.base if row not in self.base][0]
        weights, _ = self.solved({}, {free: 1})
        return self.as_words(weights)

    def bag_against_less(self, den):
        """The words, weights and divisor of a bag that allows only multiples of the least den."""
        if den == 1:
            return (), (), 1
        times = self.times_of_base(den)
        left = den
        wanted = {}
        for first in times:
            g, x, y = bezout(left, times[first])
            if g < left:
                wanted = {key: x * wanted[key] % den for key in wanted}
                wanted[first] = y % den
                left = g
        weights, divisor = self.solved(wanted, {})
        return self.as_words(weights) + (divisor,)

    def times_of_base(self, den):
        """Of which columns of the base, how many times, den times the beats are the sum."""
        left = joined(den, self.beats_column, 0, {})
        times = {}
        for first in sorted(self.base):
            if first in left:
                times[first] = left[first] // self.base[first][first]
                left = joined(1, left, -times[first], self.base[first])
        return times

    def solved(self, wanted, free):
        """Weights of rows, some of them free, and a divisor.

        The sum of a column of the base, by these weights, is the divisor times what is wanted of it.
        """
        weights = dict(free)
        divisor = 1
        for first in sorted(self.base, reverse=True):
            column = self.base[first]
            known = sum([weights[row] * column[row] for row in column if row in weights])
            number = wanted.get(first, 0) * divisor - known
            if number != 0:
                g = gcd(number, column[first])
                times = column[first] // g
                weights = {row: times * weights[row] for row in weights}
                weights[first] = number // g
                divisor *= times
        return weights, divisor

    def as_words(self, weights):
        """The words of complete roads whose sums are those of rows with weights, and the weights of the words."""
        found = {}
        for row in sorted(weights):
            source = self.sources[row]
            if source is None:
                _add(found, self.scribe.write_complete(0, self.scribe.own_road(0)), weights[row])
            else:
                edge = self.chart.edges[source]
                ahead = self.scribe.road_to(edge.spot)
                road = ahead + [source] + self.scribe.road_from(edge.goal)
                _add(found, self.scribe.write_complete(edge.net, road), weights[row])
                road = ahead + self.scribe.road_from(edge.spot)
                _add(found, self.scribe.write_complete(edge.net, road), -weights[row])
        words = tuple(self.scribe.words)
        return words, tuple([found.get(number, 0) for number in range(len(words))])


def _add(found, key, number):
    """Adds to a number in a dict; 0 is left out."""
    number += found.get(key, 0)
    if number == 0:
        found.pop(key, None)
    else:
        found[key] = number
