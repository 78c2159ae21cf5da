"""Runs of rows of blocks."""

from labelclocks.allrows import code_called, main_of, need_all_rows
from labelclocks.errors import NoStore
from labelclocks.signs import DIVIDING, NINE, joined
from labelclocks.tapes import Tape, need_inputs
from labelclocks.values import is_whole


class Area:
    """The words of a slot or store, None for one that holds nothing; no words at all when its call is over."""

    def __init__(self, words):
        self.words = words


class Frame:
    """A call that is not over. An address is a pair (area, offset)."""

    def __init__(self, unit, f, blocks, slots, passed):
        self.unit = unit
        self.f = f
        self.blocks = blocks
        self.slots = [Area([None] * words) for words in slots]
        self.temps = {}
        for temp, arg in enumerate(passed):
            self.temps[temp] = arg
        # the block where the call stands, and the step that is next; none is begun yet at -1
        self.block = 0
        self.at = -1

    def turn_to(self, block):
        """Goes on at a block."""
        self.block = block
        self.at = -1

    def lose_slots(self):
        """Makes all addresses of slots lead nowhere."""
        for area in self.slots:
            area.words = []


class RowRun:
    """A run of rows."""

    def __init__(self, all_rows, inputs):
        need_all_rows(all_rows)
        need_inputs(inputs)
        self.all_rows = tuple(all_rows)
        self.tape = Tape(inputs, all_rows[0][2])
        self.stores = [{name: Area([0] * words) for name, words in rows[4]} for rows in all_rows]
        self.opened = []
        self.begun = []

    def go(self, many):
        """Takes so many items more, fewer if the run ends or fails."""
        bound = self.tape.bound(many)
        while self.tape.goes_on(bound):
            if self.opened:
                self._go_on(self.opened[-1])
            else:
                self._begin(main_of(self.all_rows), [])

    def trace(self):
        """The list of items."""
        return list(self.tape.row)

    def stations(self):
        """The list of the items' stations."""
        return list(self.tape.marks)

    def state(self):
        """Either "running", "ended" or "failed"."""
        return self.tape.mode

    def left(self):
        """The inputs that were not asked."""
        return self.tape.left()

    def cells(self, unit, store):
        """The words of a store."""
        for at, rows in enumerate(self.all_rows):
            if isinstance(unit, str) and isinstance(store, str) and rows[1] == unit and store in self.stores[at]:
                return list(self.stores[at][store].words)
        raise NoStore(unit, store)

    def calls(self):
        """The pairs (unit, f) of the calls that are not over."""
        return [(self.all_rows[call.unit][1], call.f) for call in self.opened]

    def frames(self):
        """The tuples (unit, f, temps, slots) of the calls that are not over."""
        found = []
        for call in self.opened:
            temps = {temp: call.temps[temp] for temp in sorted(call.temps) if is_whole(call.temps[temp])}
            slots = [list(area.words) for area in call.slots]
            found.append((self.all_rows[call.unit][1], call.f, temps, slots))
        return found

    def trodden(self):
        """The triples (unit, f, block) of the blocks begun, in order."""
        return list(self.begun)

    def _begin(self, place, passed):
        """Begins a call of the code at a place with these numbers and addresses."""
        unit, f = place
        code = self.all_rows[unit][5][f]
        self.opened.append(Frame(unit, f, code[4], code[3], passed))

    def _go_on(self, call):
        """Begins a block, or does a step or ending; it makes one item at most."""
        label, steps, ending = call.blocks[call.block]
        if call.at < 0:
            call.at = 0
            name = self.all_rows[call.unit][1]
            self.begun.append((name, call.f, call.block))
            if label is not None:
                self.tape.make(("label", name, label), None)
        elif call.at < len(steps):
            call.at += 1
            self._do_step(call, steps[call.at - 1])
        else:
            self._do_ending(call, ending)

    def _station(self, call, station):
        return (self.all_rows[call.unit][1],) + station

    def _astray(self):
        self.tape.fail("astray", None)

    def _do_step(self, call, step):
        word = step[0]
        if word in TEMP_STEPS:
            action = TEMP_STEPS[word]
            action(call, step)
        elif word in NINE:
            self._join(call, step)
        elif word == "base":
            kind, area = step[2]
            call.temps[step[1]] = (call.slots[area] if kind == "slot" else self.stores[call.unit][area], 0)
        elif word == "load" or word == "save":
            self._move(call, step)
        elif word == "clear":
            area = call.slots[step[1]]
            area.words = [0] * len(area.words)
        elif word == "check":
            if call.temps[step[1]] >= step[2]:
                self.tape.fail("bounds", self._station(call, step[3]))
        elif word == "divisor":
            if call.temps[step[1]] == 0:
                self.tape.fail("zero", self._station(call, step[2]))
        elif word == "show":
            self.tape.make(("shown", step[1], call.temps[step[2]]), self._station(call, step[3]))
        else:
            call.temps[step[1]] = self.tape.ask(self._station(call, step[2])) % self.tape.size

    def _join(self, call, step):
        word, temp, one, other = step
        if word in DIVIDING and call.temps[other] == 0:
            self._astray()
        else:
            call.temps[temp] = joined(word, call.temps[one], call.temps[other]) % self.tape.size

    def _move(self, call, step):
        """Does a load or save."""
        area, offset = call.temps[step[2] if step[0] == "load" else step[1]]
        if offset >= len(area.words):
            self._astray()
        elif step[0] == "save":
            area.words[offset] = call.temps[step[2]]
        elif area.words[offset] is None:
            self._astray()
        else:
            call.temps[step[1]] = area.words[offset]

    def _do_ending(self, call, ending):
        word = ending[0]
        if word == "jump":
            call.turn_to(ending[1])
        elif word == "test":
            call.turn_to(ending[3] if call.temps[ending[1]] == 0 else ending[2])
        elif word == "fail":
            self.tape.fail(ending[1], self._station(call, ending[2]))
        elif word == "call":
            passed = [call.temps[temp] for temp in ending[3]]
            self._begin(code_called(self.all_rows, call.unit, ending[2]), passed)
        elif word == "last":
            passed = [call.temps[temp] for temp in ending[2]]
            call.lose_slots()
            self.opened.pop()
            self._begin(code_called(self.all_rows, call.unit, ending[1]), passed)
        else:
            self._give(call, ending[1])

    def _give(self, call, temp):
        call.lose_slots()
        self.opened.pop()
        if not self.opened:
            self.tape.end()
            return
        caller = self.opened[-1]
        _, given, _, _, goal = caller.blocks[caller.block][2]
        if given is not None:
            caller.temps[given] = call.temps[temp]
        caller.turn_to(goal)


def _const(call, step):
    call.temps[step[1]] = step[2]


def _copy(call, step):
    call.temps[step[1]] = call.temps[step[2]]


def _not(call, step):
    call.temps[step[1]] = int(call.temps[step[2]] == 0)


def _offset(call, step):
    area, offset = call.temps[step[2]]
    call.temps[step[1]] = (area, offset + step[3])


def _index(call, step):
    area, offset = call.temps[step[2]]
    call.temps[step[1]] = (area, offset + call.temps[step[3]] * step[4] + step[5])


TEMP_STEPS = {"const": _const, "copy": _copy, "not": _not, "offset": _offset, "index": _index}
