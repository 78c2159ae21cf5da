"""Choices by which the roads of a web cost least, and rings by which they cost less and less."""


class Policy:
    """The choice by which roads from useful spots to ends cost least; each edge has a cost.

    If there is none, ring is a ring of spots each of which hangs on the next one: a list of pairs of the edge by which
    it does and whether it hangs on the called net's start. What else its edges call and lead to costs by the choice so
    much that the ring costs less than 0.
    """

    def __init__(self, chart, costs):
        self.chart = chart
        self.costs = costs
        self.choice = list(chart.choice)
        self.order = [spot for spot in chart.order if chart.is_useful(spot)]
        self.spot_costs = self.found_costs()
        self.ring = None
        better = self.better_choices()
        while better and self.ring is None:
            self.take(better)
            better = self.better_choices()

    def found_costs(self):
        """What the roads by the choice cost, spot by spot; None where there is none."""
        worth = [None] * self.chart.spot_count
        for spot in self.order:
            at = self.choice[spot]
            worth[spot] = 0 if at is None else self.cost_by(at, worth)
        return worth

    def cost_by(self, at, worth):
        """What roads cost that begin with an edge, if those behind it cost so much."""
        edge = self.chart.edges[at]
        return self.costs[at] + worth[edge.goal] + (0 if edge.start is None else worth[edge.start])

    def better_choices(self):
        """The best edges from the spots from which another one costs less than the choice."""
        better = {}
        least = list(self.spot_costs)
        for at in self.chart.used:
            spot = self.chart.edges[at].spot
            cost = self.cost_by(at, self.spot_costs)
            if cost < least[spot]:
                least[spot] = cost
                better[spot] = at
        return better

    def take(self, better):
        """Takes other edges, or finds the ring that they make."""
        choice = list(self.choice)
        for spot in better:
            choice[spot] = better[spot]
        sorter = Sorter(self.chart, choice)
        for spot in self.order:
            sorter.sort_from(spot)
        if sorter.ring is None:
            self.choice = choice
            self.order = sorter.in_order
            self.spot_costs = self.found_costs()
        else:
            self.ring = sorter.ring


class Sorter:
    """Brings spots behind those on which a choice lets them hang, or finds a ring."""

    def __init__(self, chart, choice):
        self.chart = chart
        self.choice = choice
        self.in_order = []
        self.ring = None
        # spots that are in order, and those on the way, by their index in it
        self.done = {}
        self.on_way = {}
        # the edge by which each spot on the way hangs on the next one, and the spots ahead of which that one is
        self.way = []

    def sort_from(self, spot):
        """Brings a spot, and those on which it hangs, into the order."""
        if spot in self.done or self.ring is not None:
            return
        self.enter(spot)
        while self.way and self.ring is None:
            spot, ahead = self.way[-1]
            if not ahead:
                self.way.pop()
                self.on_way.pop(spot)
                self.done[spot] = True
                self.in_order.append(spot)
            elif ahead[-1] in self.on_way:
                self.ring = self.ring_from(self.on_way[ahead[-1]])
            elif ahead[-1] in self.done:
                ahead.pop()
            else:
                self.enter(ahead[-1])

    def enter(self, spot):
        """Goes on to a spot."""
        at = self.choice[spot]
        self.on_way[spot] = len(self.way)
        self.way.append((spot, [] if at is None else self.chart.edges[at].spots_needed()))

    def ring_from(self, first):
        """The ring that begins at an index of the way."""
        found = []
        for spot, ahead in self.way[first:]:
            # the called start is the last one of two, and so it is left alone with the goal as long as it is hung on
            found.append((self.choice[spot], len(ahead) == 2))
        return found
