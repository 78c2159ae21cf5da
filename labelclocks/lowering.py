"""Makes rows of blocks of units."""

from labelclocks.blocks import kept_blocks, reached_blocks
from labelclocks.heads import head_of, ways_of
from labelclocks.kinds import word_count
from labelclocks.rownames import holders
from labelclocks.signs import DIVIDING
from labelclocks.sourcecode import code_of
from labelclocks.units import need_unit

# behind these orders a new block begins
ENDS = ("jump", "test", "give", "call", "fail")


def lowered(unit):
    """The rows of a unit."""
    need_unit(unit)
    name, size, uses, stores, functions = unit
    codes = []
    for f, (own, params, result, _, _) in enumerate(functions):
        maker = CodeMaker(unit, f)
        blocks = maker.all_blocks()
        codes.append((own, ways_of(params), result, maker.slot_words(), kept_blocks(blocks, reached_blocks(blocks))))
    return "rows", name, size, uses, tuple([(x, word_count(kind)) for x, kind in stores]), tuple(codes)


class CodeMaker:
    """Makes the blocks of a function of the orders of its body.

    What an order puts onto the stack is here a temp, for a worth; or a place, which is ("temp", t) for a name that a
    temp holds, and ("at", t, offset) for the word so far behind the address in t.
    """

    def __init__(self, unit, f):
        self.unit = unit
        self.f = f
        _, self.params, self.result, self.locals_told, _ = unit[4][f]
        self.held = holders(unit, f)
        self.by_place = [name for name, way, _ in self.params if way == "place"]
        self.orders = code_of(unit, f).orders
        self.starts = self.block_starts()
        # the temp that the next step gives: all names have theirs ahead of it
        self.free = len(self.params) + len(self.locals_told)
        self.written = []
        self.stack = []
        # the temp that holds the result of the call that ended the last block
        self.given = 0

    def slot_words(self):
        """The words of each slot."""
        words = {name: word_count(kind) for name, _, kind in self.params}
        for name, kind in self.locals_told:
            words[name] = word_count(kind)
        return tuple([words[name] for name in self.held if self.held[name][0] == "slot"])

    def block_starts(self):
        """The numbers of blocks, by the indexes of the orders with which they begin."""
        begins = {0: True}
        for at, order in enumerate(self.orders):
            # what a test or a call goes on to stands behind such an order, too
            if order[0] in ENDS:
                begins[at + 1] = True
            if order[0] == "jump":
                begins[order[1]] = True
        starts = {}
        for at in range(len(self.orders)):
            if at in begins:
                starts[at] = len(starts)
        return starts

    def all_blocks(self):
        """The list of all blocks, of those that are never reached, too."""
        found = []
        label = None
        for at, order in enumerate(self.orders):
            if order[0] == "label":
                label = (self.f, order[1], ())
                if at == 0:
                    self.begin()
            elif order[0] not in ENDS:
                self.add_order(order)
            if order[0] in ENDS or at + 1 in self.starts:
                ending = self.ending(at, order) if order[0] in ENDS else ("jump", self.starts[at + 1])
                found.append((label, tuple(self.written), ending))
                label = None
                self.written = []
        return found

    def begin(self):
        """The steps ahead of the body."""
        for at, (name, way, _) in enumerate(self.params):
            if way == "worth" and self.held[name][0] == "slot":
                self.written.append(("save", self.give("base", self.held[name]), at))
        for name, _ in self.locals_told:
            where, at = self.held[name]
            self.written.append(("clear", at) if where == "slot" else ("const", at, 0))

    def give(self, word, *behind):
        """A step that gives a new temp, and this temp."""
        self.free += 1
        self.written.append((word, self.free - 1) + behind)
        return self.free - 1

    def add_order(self, order):
        """The steps of an order that ends no block."""
        word = order[0]
        if word == "number":
            self.stack.append(self.give("const", order[1]))
        elif word == "name":
            self.stack.append(self.place_named(order[1]))
        elif word == "field":
            _, temp, offset = self.stack.pop()
            self.stack.append(("at", temp, offset + order[1]))
        elif word == "item":
            self.add_item(order)
        elif word == "read":
            place = self.stack.pop()
            self.stack.append(place[1] if place[0] == "temp" else self.give("load", self.address(place)))
        elif word == "put":
            worth = self.stack.pop()
            place = self.stack.pop()
            is_temp = place[0] == "temp"
            self.written.append(("copy", place[1], worth) if is_temp else ("save", self.address(place), worth))
        elif word == "not":
            self.stack.append(self.give("not", self.stack.pop()))
        elif word == "show":
            self.written.append(("show", order[1], self.stack.pop(), (self.f, order[2])))
        elif word == "ask":
            self.stack.append(self.give("ask", (self.f, order[1])))
        elif word == "result":
            self.stack.append(self.given)
        else:
            self.join(order)

    def place_named(self, name):
        """The place of a name."""
        if name not in self.held:
            return "at", self.give("base", ("store", name)), 0
        where, at = self.held[name]
        if where == "slot":
            return "at", self.give("base", ("slot", at)), 0
        return ("at", at, 0) if name in self.by_place else ("temp", at)

    def add_item(self, order):
        """The steps of an item of a row."""
        _, many, words, station = order
        index = self.stack.pop()
        _, temp, offset = self.stack.pop()
        self.written.append(("check", index, many, (self.f, station)))
        self.stack.append(("at", self.give("index", temp, index, words, offset), 0))

    def join(self, order):
        """The steps of one of the nine words."""
        other = self.stack.pop()
        one = self.stack.pop()
        if order[0] in DIVIDING:
            self.written.append(("divisor", other, (self.f, order[1])))
        self.stack.append(self.give(order[0], one, other))

    def address(self, place):
        """The temp that holds the address of a place."""
        return self.give("offset", place[1], place[2]) if place[2] > 0 else place[1]

    def ending(self, at, order):
        """The ending that the order at an index is."""
        word = order[0]
        if word == "jump":
            return word, self.starts[order[1]]
        if word == "test":
            return word, self.stack.pop(), self.starts[at + 1], self.starts[order[2]]
        if word == "fail":
            return word, order[1], (self.f, order[2])
        if word == "call":
            return self.call(order, self.starts[at + 1])
        if self.result is None:
            return word, None
        return word, self.stack.pop() if order[1] else self.give("const", 0)

    def call(self, order, goal):
        """The ending of a call; its result, if it has one, is given to a new temp."""
        callee = order[1]
        # as a call is a statement, there is nothing but its args
        temps = [self.address(arg) if isinstance(arg, tuple) else arg for arg in self.stack]
        self.stack = []
        if head_of(self.unit, callee)[1] is None:
            return "call", None, callee, tuple(temps), goal
        self.given = self.free
        self.free += 1
        return "call", self.given, callee, tuple(temps), goal
