"""The told roads of sides, one by one: a second reading of [80]; and the roads of label webs."""

from labelclocks.reading import read
from labelclocks.sourceroads import road_book


def reached_marks(made):
    """The labels of the marks to which the code of an object leads."""
    found = set()
    for _, _, _, _, cells in made[6]:
        waiting, met = [0], {0}
        while waiting:
            at = waiting.pop()
            word = cells[at][0]
            if word == "mark":
                found.add(cells[at][1])
            goals = {"jump": [cells[at][-1]], "unless": [at + 1, cells[at][-1]]}.get(word, [at + 1])
            for goal in [] if word in ("last", "return", "fail") else goals:
                if goal < len(cells) and goal not in met:
                    met.add(goal)
                    waiting.append(goal)
    return found


class Roads:

    def __init__(self, sides, main, rounds, most):
        self.things = {made[1]: made for made in sides[0]}
        self.readings = [{made[1]: (made[7], made[8]) for made in side} for side in sides]
        self.marks = [{made[1]: reached_marks(made) for made in side} for side in sides]
        self.rounds = rounds or {}
        self.most = most
        self.found = []
        self.walk([(main, [made[0] for made in self.things[main][6]].index("main"), 0)], [])

    def road(self, label):
        return self.things[label[0]][8][label[1]][label[2]]

    def allowed(self, labels, opened):
        """Whether a last label may come; opened has for each open call the labels that it has met."""
        for readings, marks in zip(self.readings, self.marks):
            told = read(readings, labels)[-1]
            if told is not None and told[1] not in marks[told[0]]:
                return False
        own = opened[-1]
        unit, f, k = own[-1]
        for turn in self.road(own[-1])[2]:
            if (unit, f, turn) in self.rounds:
                many = 0
                for label in reversed(own):
                    if turn not in self.road(label)[2]:
                        break
                    many += label[2] == turn
                if many > self.rounds[unit, f, turn]:
                    return False
        return True

    def walk(self, labels, opened):
        """Goes on behind a last label; opened tells the calls ahead of it."""
        if len(labels) > self.most:
            return
        last = labels[-1]
        if last[2] == 0:
            opened = opened + [[last]]
        else:
            opened = opened[:-1] + [opened[-1] + [last]]
        if not self.allowed(labels, opened):
            return
        ending = self.road(last)[1]
        if ending[0] == "arms":
            for k in ending[1:]:
                self.walk(labels + [last[:2] + (k,)], opened)
        elif ending[0] == "call":
            kind, i = ending[1]
            goal = (last[0], i, 0)
            if kind == "use":
                unit, function = self.things[last[0]][4][i][:2]
                goal = (unit, [made[0] for made in self.things[unit][6]].index(function), 0)
            self.walk(labels + [goal], opened)
        elif ending[0] == "give" and len(opened) == 1:
            self.found.append(labels)
        elif ending[0] == "give":
            unit, f, k = opened[-2][-1]
            self.walk(labels + [(unit, f, self.road((unit, f, k))[1][2])], opened[:-1])

    def counts(self, labels):
        """How often each name is read, as a tuple of pairs."""
        found = {}
        for side, readings in enumerate(self.readings):
            for told in read(readings, labels):
                if told is not None:
                    name = (side,) + told
                    found[name] = found.get(name, 0) + 1
        return tuple(sorted(found.items()))


def told_counts(sides, main, rounds, most):
    """The sorted list of the counts of the told roads of at most so many labels."""
    roads = Roads(sides, main, rounds, most)
    return sorted(roads.counts(labels) for labels in roads.found)


def web_counts(web, names, most):
    """The sorted list of the counts of the complete roads of a label web over at most so many places."""
    found = []
    for counts, _ in _roads(web, 0, 0, most, {}):
        found.append(tuple((names[label], many) for label, many in counts))
    return sorted(found)


def _roads(web, net, place, most, known):
    """The list of pairs (counts, places come to) of the roads from a place; each road stands there once."""
    key = (net, place, most)
    if key not in known:
        known[key] = []
        places, edges = web[1][net]
        if place == places - 1:
            known[key].append(((), 0))
        for one, to, call, _, read_labels in edges:
            if one != place:
                continue
            own = 0 if to == places - 1 else 1
            if own > most:
                continue
            inner = [((), 0)] if call is None else _roads(web, call, 0, most - own, known)
            for counts, spent in inner:
                for further, more in _roads(web, net, to, most - own - spent, known):
                    total = dict(counts)
                    for label, many in list(further) + [(label, 1) for label in read_labels]:
                        total[label] = total.get(label, 0) + many
                    known[key].append((tuple(sorted(total.items())), own + spent + more))
    return known[key]


def readings_of(program, objects):
    return {unit[0]: (made[7], road_book(unit)) for unit, made in zip(program, objects)}
