"""Writes words of a web: roads by a choice, and roads that begin otherwise."""


class Scribe:
    """Writes words; the choice and the order must be those of useful spots, at least."""

    def __init__(self, chart, choice, order):
        self.chart = chart
        self.choice = choice
        self.ranks = {spot: at for at, spot in enumerate(order)}
        self.words = []
        # the numbers of words, by themselves, and of the nets' own roads, by nets
        self.known = {}
        self.own = {}

    def road_from(self, spot):
        """The edges of the road by the choice from a spot to the end of its net."""
        found = []
        while self.choice[spot] is not None:
            found.append(self.choice[spot])
            spot = self.chart.edges[self.choice[spot]].goal
        return found

    def own_road(self, net):
        """The edges of the road by the choice through a net."""
        return self.road_from(self.chart.starts[net])

    def nets_called(self, road):
        """The nets that edges call."""
        calls = [self.chart.edges[at].called for at in road]
        return [call for call in calls if call is not None]

    def write_own(self, nets):
        """Writes words for the roads by the choice through nets, and for what these call."""
        found = {}
        waiting = [net for net in nets if net not in self.own]
        while waiting:
            net = waiting.pop()
            if net not in found and net not in self.own:
                found[net] = True
                waiting.extend(self.nets_called(self.own_road(net)))
        for _, net in sorted([(self.ranks[self.chart.starts[net]], net) for net in found]):
            self.own[net] = self.write(net, self.steps(self.own_road(net)))

    def write(self, net, steps):
        """The number of a word, which is written if it was not yet."""
        word = (net, tuple(steps))
        if word not in self.known:
            self.known[word] = len(self.words)
            self.words.append(word)
        return self.known[word]

    def steps(self, road):
        """The steps of edges behind which nets are gone through by the choice."""
        self.write_own(self.nets_called(road))
        return [self.step(at) for at in road]

    def step(self, at):
        """The step of an edge, the word of whose called net is written."""
        edge = self.chart.edges[at]
        return edge.at if edge.called is None else (edge.at, self.own[edge.called])

    def write_complete(self, net, road):
        """The number of the word of a complete road that goes through a net by these edges."""
        steps = self.steps(road)
        caller = self.chart.callers[net]
        while caller is not None:
            inner = self.write(net, steps)
            edge = self.chart.edges[caller]
            steps = self.steps(self.road_to(edge.spot))
            behind = self.steps(self.road_from(edge.goal))
            steps = steps + [(edge.at, inner)] + behind
            net = edge.net
            caller = self.chart.callers[net]
        return self.write(net, steps)

    def road_to(self, spot):
        """The edges of a road from the start of a spot's net to it."""
        found = []
        while self.chart.came[spot] is not None:
            found.append(self.chart.came[spot])
            spot = self.chart.edges[found[-1]].spot
        found.reverse()
        return found
