"""The places and edges of a web by numbers of their own, and which of them complete roads come to.

Spots are the places of all nets, one net behind another, and so edges have numbers, too. A choice tells for spots by
which edge a road from there to the end of the net goes on; in an order each spot stands behind those on which its
choice hangs.
"""


class Edge:
    """An edge: start is the spot of the called net's start, None if there is no call."""

    def __init__(self, net, at, told, starts):
        self.net = net
        # its index in the net's edges
        self.at = at
        self.spot = starts[net] + told[0]
        self.goal = starts[net] + told[1]
        self.called = told[2]
        self.start = None if told[2] is None else starts[told[2]]
        self.edge_beats = told[3]
        self.labels = told[4]

    def spots_needed(self):
        """The spots from which roads must lead on so that one does behind this edge."""
        return [self.goal] if self.start is None else [self.goal, self.start]


class Chart:
    """What complete roads of a web can come to."""

    def __init__(self, web):
        self.label_count = web[0]
        self.starts = []
        self.ends = []
        spots = 0
        for places, _ in web[1]:
            self.starts.append(spots)
            spots += places
            self.ends.append(spots - 1)
        self.spot_count = spots
        self.edges = []
        for net, (_, told) in enumerate(web[1]):
            self.edges.extend([Edge(net, at, edge, self.starts) for at, edge in enumerate(told)])
        self.ends_at = {spot: True for spot in self.ends}
        # for spots from which roads lead to ends
        self.choice = [None] * spots
        self.order = []
        self.finish()
        # for spots, the edge by which their net's start leads there first; for nets, the edge that calls them first
        self.came = {}
        self.callers = {}
        if self.is_finished(self.starts[0]):
            self.reach()
        self.used = [at for at, edge in enumerate(self.edges) if edge.spot in self.came and self.is_open(edge)]

    def is_useful(self, spot):
        """Whether a complete road comes to a spot."""
        return spot in self.came

    def is_finished(self, spot):
        """Whether a road leads from a spot to the end of its net."""
        return self.choice[spot] is not None or spot in self.ends_at

    def is_open(self, edge):
        """Whether a road leads on behind an edge."""
        return all([self.is_finished(spot) for spot in edge.spots_needed()])

    def finish(self):
        """Finds the spots from which roads lead to ends, and a choice and an order for these."""
        waits = [[] for _ in range(self.spot_count)]
        missing = []
        for at, edge in enumerate(self.edges):
            missing.append(len(edge.spots_needed()))
            for spot in edge.spots_needed():
                waits[spot].append(at)
        self.order = list(self.ends)
        done = 0
        while done < len(self.order):
            finished = self.order[done]
            for at in waits[finished]:
                missing[at] -= 1
                spot = self.edges[at].spot
                if missing[at] == 0 and self.choice[spot] is None:
                    self.choice[spot] = at
                    self.order.append(spot)
            done += 1

    def reach(self):
        """Finds the spots to which complete roads come; there is one."""
        leads = [[] for _ in range(self.spot_count)]
        for at, edge in enumerate(self.edges):
            if self.is_open(edge):
                leads[edge.spot].append(at)
        self.came[self.starts[0]] = None
        self.callers[0] = None
        waiting = [self.starts[0]]
        done = 0
        while done < len(waiting):
            reached = waiting[done]
            for at in leads[reached]:
                edge = self.edges[at]
                if edge.goal not in self.came:
                    self.came[edge.goal] = at
                    waiting.append(edge.goal)
                if edge.called is not None and edge.called not in self.callers:
                    # nothing of a net is come to ahead of its start
                    self.callers[edge.called] = at
                    self.came[edge.start] = None
                    waiting.append(edge.start)
            done += 1
