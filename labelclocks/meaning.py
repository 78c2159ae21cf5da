"""What programs mean: runs of the source."""

from labelclocks.errors import BadProgram, NoStore
from labelclocks.kinds import word_count
from labelclocks.signs import DIVIDING, NINE, WRAPPING, joined
from labelclocks.sourcecode import code_of
from labelclocks.tapes import Tape, need_inputs
from labelclocks.units import is_program


class Call:
    """A call that is not over. An address is a pair (list of an area's words, offset)."""

    def __init__(self, unit, f, orders):
        self.unit = unit
        self.f = f
        self.orders = orders
        # the index of the order that is done next
        self.at = 0
        self.stack = []
        # the addresses of all names in reach, and which of these are areas of the call's own
        self.places = {}
        self.own = []

    def add_area(self, name, words):
        """An area of this call's own."""
        self.places[name] = (words, 0)
        self.own.append(name)


class Run:
    """A run of a program."""

    def __init__(self, program, inputs):
        if not is_program(program):
            raise BadProgram("no program")
        need_inputs(inputs)
        self.units = program
        self.tape = Tape(inputs, program[0][1])
        self.codes = [[code_of(unit, f) for f in range(len(unit[4]))] for unit in program]
        # the words of stores, by units and names
        self.stores = [{name: [0] * word_count(kind) for name, kind in unit[3]} for unit in program]
        self.opened = []
        # what the call that was over last gave
        self.given = 0
        self.wrapped = 0

    def go(self, many):
        """Takes so many items more, fewer if the run ends or fails."""
        bound = self.tape.bound(many)
        while self.tape.goes_on(bound):
            if self.opened:
                self._do_order(self.opened[-1])
            else:
                names = [function[0] for function in self.units[0][4]]
                self._begin(0, names.index("main"), [])

    def trace(self):
        """The list of items."""
        return list(self.tape.row)

    def stations(self):
        """The list of the items' stations."""
        return list(self.tape.marks)

    def state(self):
        """Either "running", "ended" or "failed"."""
        return self.tape.mode

    def left(self):
        """The inputs that were not asked."""
        return self.tape.left()

    def calls(self):
        """The pairs (unit name, f) of the calls that are not over."""
        return [(self.units[call.unit][0], call.f) for call in self.opened]

    def frames(self):
        """The triples (unit name, f, words by names) of the calls that are not over."""
        found = []
        for call in self.opened:
            words = {name: tuple(call.places[name][0]) for name in sorted(call.own)}
            found.append((self.units[call.unit][0], call.f, words))
        return found

    def cells(self, unit, store):
        """The words of a store."""
        for u, owner in enumerate(self.units):
            if isinstance(unit, str) and isinstance(store, str) and owner[0] == unit and store in self.stores[u]:
                return list(self.stores[u][store])
        raise NoStore(unit, store)

    def wraps(self):
        """How many values and inputs were not below the size ahead of the modulo."""
        return self.wrapped

    def _station(self, call, number):
        return self.units[call.unit][0], call.f, number

    def _begin(self, u, f, passed):
        """Begins a call with these numbers and addresses."""
        function = self.units[u][4][f]
        call = Call(u, f, self.codes[u][f].orders)
        for name in self.stores[u]:
            call.places[name] = (self.stores[u][name], 0)
        for (name, way, _), arg in zip(function[1], passed):
            if way == "worth":
                call.add_area(name, [arg])
            else:
                call.places[name] = arg
        for name, kind in function[3]:
            call.add_area(name, [0] * word_count(kind))
        self.opened.append(call)

    def _do_order(self, call):
        """Does the next order of the innermost call; it makes one item at most."""
        order = call.orders[call.at]
        call.at += 1
        word = order[0]
        if word in NINE:
            self._join(call, order)
        elif word in PLAIN_ORDERS:
            action = PLAIN_ORDERS[word]
            action(call, order)
        elif word == "item":
            self._index(call, order)
        elif word == "label":
            self.tape.make(("label", self._station(call, order[1])), None)
        elif word == "show":
            self.tape.make(("shown", order[1], call.stack.pop()), self._station(call, order[2]))
        elif word == "ask":
            self._ask(call, order[1])
        elif word == "fail":
            self.tape.fail(order[1], self._station(call, order[2]))
        elif word == "call":
            self._call(call, order)
        elif word == "result":
            call.stack.append(self.given)
        else:
            self._give(call, order[1])

    def _join(self, call, order):
        other = call.stack.pop()
        one = call.stack.pop()
        if order[0] in DIVIDING and other == 0:
            self.tape.fail("zero", self._station(call, order[1]))
            return
        value = joined(order[0], one, other)
        size = self.tape.size
        if order[0] in WRAPPING and not 0 <= value < size:
            self.wrapped += 1
        call.stack.append(value % size)

    def _index(self, call, order):
        _, items, words, station = order
        index = call.stack.pop()
        if index >= items:
            self.tape.fail("bounds", self._station(call, station))
            return
        area, offset = call.stack.pop()
        call.stack.append((area, offset + index * words))

    def _ask(self, call, station):
        told = self.tape.ask(self._station(call, station))
        if told >= self.tape.size:
            self.wrapped += 1
        call.stack.append(told % self.tape.size)

    def _call(self, call, order):
        _, callee, many, _ = order
        passed = call.stack[len(call.stack) - many:]
        call.stack = call.stack[:len(call.stack) - many]
        u, f = call.unit, callee[1]
        if callee[0] == "use":
            u, f = self._met(self.units[u][2][callee[1]])
        self._begin(u, f, passed)

    def _met(self, use):
        """The numbers of the unit and the function that a use names."""
        for u, unit in enumerate(self.units):
            for f, function in enumerate(unit[4]):
                if (unit[0], function[0]) == use[:2]:
                    return u, f
        return None

    def _give(self, call, has_worth):
        self.given = call.stack.pop() if has_worth else 0
        self.opened.pop()
        if not self.opened:
            self.tape.end()


def _number(call, order):
    call.stack.append(order[1])


def _name(call, order):
    call.stack.append(call.places[order[1]])


def _field(call, order):
    area, offset = call.stack.pop()
    call.stack.append((area, offset + order[1]))


def _read(call, order):
    area, offset = call.stack.pop()
    call.stack.append(area[offset])


def _not(call, order):
    call.stack.append(1 - call.stack.pop())


def _put(call, order):
    value = call.stack.pop()
    area, offset = call.stack.pop()
    area[offset] = value


def _test(call, order):
    if call.stack.pop() == 0:
        call.at = order[2]


def _jump(call, order):
    call.at = order[1]


PLAIN_ORDERS = {
    "number": _number, "name": _name, "field": _field, "read": _read, "not": _not, "put": _put, "test": _test,
    "jump": _jump,
}
