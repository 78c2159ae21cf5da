"""Makes rows of units, only for tests: without any care for how many blocks, steps and temps there are."""

from labelclocks.kinds import words_of
from labelclocks.rownames import holders
from labelclocks.sourcecode import code_of


def lower(unit):
    name, size, uses, stores, functions = unit
    codes = []
    for f, (own, params, result, _, _) in enumerate(functions):
        maker = CodeMaker(unit, f)
        codes.append((own, tuple(param[1:] for param in params), result, tuple(maker.slots), maker.blocks()))
    return ("rows", name, size, uses, tuple((x, words_of(kind)) for x, kind in stores), tuple(codes))


class CodeMaker:

    def __init__(self, unit, f):
        self.unit = unit
        self.f = f
        self.held = holders(unit, f)
        self.orders = code_of(unit, f).orders
        _, self.params, self.result, self.told, _ = unit[4][f]
        kinds = {x: kind for x, _, kind in self.params}
        kinds.update(dict(self.told))
        self.slots = [words_of(kinds[x]) for x, (where, _) in self.held.items() if where == "slot"]
        self.free = 1 + max([len(self.params) - 1] + [t for where, t in self.held.values() if where == "temp"])
        self.given = self.fresh()

    def fresh(self):
        self.free += 1
        return self.free - 1

    def leaders(self):
        found = {0}
        for at, order in enumerate(self.orders):
            if order[0] == "label":
                found.add(at)
            if order[0] in ("jump", "test", "give", "call", "fail"):
                found.add(at + 1)
            if order[0] in ("jump", "test"):
                found.add(order[-1])
        return sorted(at for at in found if at < len(self.orders))

    def begin(self):
        for at, (x, way, _) in enumerate(self.params):
            if way == "worth" and self.held[x][0] == "slot":
                temp = self.fresh()
                self.steps += [("base", temp, self.held[x]), ("save", temp, at)]
        for x, _ in self.told:
            where, at = self.held[x]
            self.steps.append(("clear", at) if where == "slot" else ("const", at, 0))

    def blocks(self):
        leaders = self.leaders()
        self.number = {at: n for n, at in enumerate(leaders)}
        found = []
        for n, first in enumerate(leaders):
            last = leaders[n + 1] if n + 1 < len(leaders) else len(self.orders)
            self.steps, self.stack, self.ending = [], [], None
            label = None
            for at in range(first, last):
                order = self.orders[at]
                if order[0] == "label":
                    label = (self.f, order[1], ())
                    if order[1] == 0:
                        self.begin()
                else:
                    self.add(at, order)
            found.append((label, tuple(self.steps), self.ending or ("jump", self.number[last])))
        return tuple(found)

    def station(self, order):
        return (self.f, order[-1])

    def add(self, at, order):
        word = order[0]
        stack, steps = self.stack, self.steps
        if word == "number":
            self.give("const", order[1])
        elif word == "name":
            self.add_name(order[1])
        elif word == "field":
            self.give("offset", stack.pop(), order[1])
        elif word == "item":
            index = stack.pop()
            steps.append(("check", index, order[1], self.station(order)))
            self.give("index", stack.pop(), index, order[2], 0)
        elif word == "read":
            place = stack.pop()
            self.give("copy", place[1]) if isinstance(place, tuple) else self.give("load", place)
        elif word == "put":
            worth, place = stack.pop(), stack.pop()
            steps.append(("copy", place[1], worth) if isinstance(place, tuple) else ("save", place, worth))
        elif word == "not":
            self.give("not", stack.pop())
        elif word == "show":
            steps.append(("show", order[1], stack.pop(), self.station(order)))
        elif word == "ask":
            self.give("ask", self.station(order))
        elif word == "result":
            stack.append(self.given)
        elif word in ("fail", "test", "jump", "call", "give"):
            self.ending = self.end(at, order)
        else:
            other, one = stack.pop(), stack.pop()
            if word in ("over", "rest"):
                steps.append(("divisor", other, self.station(order)))
            self.give(word, one, other)

    def give(self, word, *more):
        temp = self.fresh()
        self.steps.append((word, temp) + more)
        self.stack.append(temp)

    def add_name(self, x):
        if x not in self.held:
            self.give("base", ("store", x))
        elif self.held[x][0] == "slot":
            self.give("base", self.held[x])
        elif x in [param for param, way, _ in self.params if way == "place"]:
            self.stack.append(self.held[x][1])
        else:
            self.stack.append(("var", self.held[x][1]))

    def end(self, at, order):
        word = order[0]
        if word == "jump":
            return ("jump", self.number[order[1]])
        if word == "test":
            return ("test", self.stack.pop(), self.number[at + 1], self.number[order[2]])
        if word == "fail":
            return ("fail", order[1], self.station(order))
        if word == "give":
            if self.result is None:
                return ("give", None)
            if not order[1]:
                self.give("const", 0)
            return ("give", self.stack.pop())
        many = order[2]
        args = tuple(self.stack[len(self.stack) - many:])
        kind, n = order[1]
        result = self.unit[4][n][2] if kind == "own" else self.unit[2][n][3]
        return ("call", None if result is None else self.given, order[1], args, self.number[at + 1])
