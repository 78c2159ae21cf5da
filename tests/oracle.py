"""A second reading of [20] to [23], written apart from the program: runs of the source, by recursion."""

from labelclocks.kinds import words_of
from labelclocks.units import labels_of, stations_of


class Failing(Exception):
    pass


class Leaving(Exception):
    pass


class Oracle:

    def __init__(self, program, inputs):
        self.program = program
        self.size = program[0][1]
        self.inputs = list(inputs)
        self.wraps = 0
        self.opened = []
        self.stores = {unit[0]: {x: [0] * words_of(kind) for x, kind in unit[3]} for unit in program}
        self.units = {unit[0]: unit for unit in program}
        self.labels, self.stations = {}, {}
        for unit in program:
            for f in range(len(unit[4])):
                for k, told in enumerate(labels_of(unit, f)):
                    self.labels[(unit[0], f) + told] = (unit[0], f, k)
                for s, told in enumerate(stations_of(unit, f)):
                    self.stations[(unit[0], f) + told] = (unit[0], f, s)

    def items(self):
        """Makes the pairs (item, station); what comes behind an item is done when the next one is asked for."""
        f = [function[0] for function in self.program[0][4]].index("main")
        try:
            yield from self.call(self.program[0][0], f, [], None)
            yield ("end",), None
        except Failing as error:
            yield ("failed", error.args[0]), error.args[1]

    def station(self, frame, word, path):
        return self.stations[(frame["unit"], frame["f"], word, path)]

    def label(self, frame, word, path):
        return ("label", self.labels[(frame["unit"], frame["f"], word, path)]), None

    def call(self, unit, f, args, kinds):
        _, params, result, told, body = self.units[unit][4][f]
        frame = {"unit": unit, "f": f, "at": {}, "own": {}}
        for x, kind in self.units[unit][3]:
            frame["at"][x] = (self.stores[unit][x], 0, kind)
        for (x, way, kind), arg in zip(params, args):
            if way == "worth":
                frame["own"][x] = [arg]
                frame["at"][x] = (frame["own"][x], 0, kind)
            else:
                frame["at"][x] = arg + (kind,)
        for x, kind in told:
            frame["own"][x] = [0] * words_of(kind)
            frame["at"][x] = (frame["own"][x], 0, kind)
        self.opened.append(frame)
        yield self.label(frame, "door", ())
        frame["given"] = 0
        try:
            yield from self.body(frame, body, ())
        except Leaving as error:
            if error.args[0] != "give":
                raise AssertionError("a break outside of a while")
        self.opened.pop()
        self.result = frame["given"]

    def body(self, frame, body, path):
        for at, statement in enumerate(body):
            yield from self.statement(frame, statement, path + (at,))

    def statement(self, frame, statement, path):
        word = statement[0]
        if word == "put":
            area, offset, _ = self.address(frame, statement[1], path + (1,))
            area[offset] = self.value(frame, statement[2], path + (2,))
        elif word == "show":
            value = self.value(frame, statement[2], path + (2,))
            yield ("shown", statement[1], value), self.station(frame, "show", path)
        elif word == "ask":
            area, offset, _ = self.address(frame, statement[1], path + (1,))
            told = self.inputs.pop(0) if self.inputs else 0
            self.wraps += told >= self.size
            yield ("asked", told % self.size), self.station(frame, "ask", path)
            area[offset] = told % self.size
        elif word == "fail":
            raise Failing(statement[1], self.station(frame, "fail", path))
        elif word == "if":
            if self.value(frame, statement[1], path + (1,)):
                yield self.label(frame, "yes", path + (2,))
                yield from self.body(frame, statement[2], path + (2,))
            else:
                yield self.label(frame, "no", path + (3,))
                yield from self.body(frame, statement[3], path + (3,))
        elif word == "while":
            yield from self.loop(frame, statement, path)
        elif word in ("break", "again"):
            raise Leaving(word)
        elif word == "give":
            if statement[1] is not None:
                frame["given"] = self.value(frame, statement[1], path + (1,))
            raise Leaving("give")
        else:
            yield from self.call_statement(frame, statement, path)

    def loop(self, frame, statement, path):
        while self.value(frame, statement[1], path + (1,)):
            yield self.label(frame, "round", path + (2,))
            try:
                yield from self.body(frame, statement[2], path + (2,))
            except Leaving as error:
                if error.args[0] == "give":
                    raise
                if error.args[0] == "break":
                    return
        yield self.label(frame, "out", path)

    def call_statement(self, frame, statement, path):
        _, target, callee, args = statement
        unit = self.units[frame["unit"]]
        if callee[0] == "own":
            name, f = unit[0], callee[1]
        else:
            name, function = unit[2][callee[1]][:2]
            f = [told[0] for told in self.units[name][4]].index(function)
        told = []
        for at, arg in enumerate(args):
            if self.units[name][4][f][1][at][1] == "worth":
                told.append(int(self.value(frame, arg, path + (3, at))))
            else:
                told.append(self.address(frame, arg, path + (3, at))[:2])
        yield from self.call(name, f, told, None)
        given = self.result
        yield self.label(frame, "back", path)
        if target is not None:
            area, offset, _ = self.address(frame, target, path + (1,))
            area[offset] = int(given)

    def address(self, frame, place, path):
        if place[0] == "name":
            return frame["at"][place[1]]
        area, offset, kind = self.address(frame, place[1], path + (1,))
        if place[0] == "field":
            for name, inner in kind[1]:
                if name == place[2]:
                    return area, offset, inner
                offset += words_of(inner)
        index = self.value(frame, place[2], path + (2,))
        if index >= kind[1]:
            raise Failing("bounds", self.station(frame, "bounds", path))
        return area, offset + index * words_of(kind[2]), kind[2]

    def value(self, frame, e, path):
        word = e[0]
        if word == "number":
            return e[1]
        if word == "truth":
            return int(e[1] == "yes")
        if word == "read":
            area, offset, _ = self.address(frame, e[1], path + (1,))
            return area[offset]
        one = self.value(frame, e[1], path + (1,))
        if word == "not":
            return 1 - one
        other = self.value(frame, e[2], path + (2,))
        if word in ("over", "rest"):
            if other == 0:
                raise Failing("zero", self.station(frame, "zero", path))
            return one // other if word == "over" else one % other
        if word in ("less", "same"):
            return int(one < other) if word == "less" else int(one == other)
        if word in ("and", "or"):
            return min(one, other) if word == "and" else max(one, other)
        made = {"plus": one + other, "minus": one - other, "times": one * other}[word]
        self.wraps += made != made % self.size
        return made % self.size

    def calls(self):
        return [(frame["unit"], frame["f"]) for frame in self.opened]

    def frames(self):
        return [
            (frame["unit"], frame["f"], {x: tuple(frame["own"][x]) for x in sorted(frame["own"])})
            for frame in self.opened]
