"""Writes the cells of a code whose temps have their places."""

from labelclocks.blocks import told_last
from labelclocks.cells import MOST_CELLS, MOST_FRAME
from labelclocks.clashes import SPARE_REGISTERS
from labelclocks.colouring import first_word, places_in
from labelclocks.errors import TooLarge
from labelclocks.liveness import alive_in, step_back
from labelclocks.signs import NINE
from labelclocks.steps import temp_given

# steps that do nothing but give a temp
QUIET_WORDS = ("const", "copy", "plus", "minus", "times", "less", "same", "and", "or", "not", "base", "index", "offset")
# how many words a call puts between two frames
LINK_WORDS = 2


def frame_words(code, places):
    """How many words the frame of a code has."""
    words = [place[1] + 1 for place in list(places.values()) if place[0] == "word"]
    return max(words + [first_word(code, len(code[3]))])


def emitted(code, registers):
    """The emitter that has written the cells of a code."""
    emitter = Emitter(code, registers)
    if emitter.frame > MOST_FRAME:
        raise TooLarge("too many words of a frame")
    emitter.write()
    if len(emitter.written) > MOST_CELLS:
        raise TooLarge("too many cells")
    return emitter


class Emitter:
    """Writes cells block by block.

    What lies in words is worked on in two spare registers in which no temp lies. As long as cells are written goals
    are blocks in them.
    """

    def __init__(self, code, registers):
        self.code = code
        self.places = places_in(code, registers)
        self.frame = frame_words(code, self.places)
        self.alive_first = alive_in(code[4])
        self.given_at = {ending[4]: ending[1] for _, _, ending in code[4] if ending[0] == "call"}
        self.written = []
        # the addresses at which blocks begin
        self.starts = {}
        self.spares = list(range(registers - SPARE_REGISTERS, registers))
        # the words that spare registers hold, too
        self.kept_words = {}

    def write(self):
        """Writes the cells of all blocks that are met."""
        waiting = [0]
        while waiting:
            at = waiting.pop()
            while at is not None:
                at = self.add_block(at, waiting)
        self.written = [self.with_address(cell) for cell in self.written]

    def placing(self):
        """The pair of the cells and the number of the frame's words."""
        return tuple(self.written), self.frame

    def with_address(self, cell):
        """The cell with an address in the place of its goal."""
        if cell[0] == "jump" or cell[0] == "unless":
            return cell[:-1] + (self.starts[cell[-1]],)
        return cell

    def add_block(self, at, waiting):
        """Writes a block; tells the one that has to follow at once, None if any may. What is to come waits."""
        label, steps, ending = self.code[4][at]
        self.starts[at] = len(self.written)
        self.kept_words = {}
        if at == 0:
            self.written.append(("room", self.frame))
        if label is not None:
            self.written.append(("mark", label))
        self.begin(at)
        for step, is_alive in zip(steps, self.gifts_alive(steps, ending)):
            if is_alive or step[0] not in QUIET_WORDS:
                self.add_step(step, is_alive)
        return self.add_ending(ending, waiting)

    def gifts_alive(self, steps, ending):
        """For each step whether the temp that it gives is alive behind it."""
        told = told_last(ending, self.alive_first)
        found = []
        for step in reversed(steps):
            found.append(temp_given(step) in told)
            step_back(step, told)
        found.reverse()
        return found

    def begin(self, at):
        """Brings what a call has given, or the params, to their places."""
        if at == 0:
            for temp in range(len(self.code[1])):
                if temp in self.alive_first[0] and self.places[temp][0] == "register":
                    self.written.append(("get", self.places[temp][1], temp))
        elif self.given_at.get(at) in self.alive_first[at]:
            place = self.places[self.given_at[at]]
            if place[0] == "word":
                self.written.append(("keep", place[1], 0))
            elif place[1] != 0:
                self.written.append(("move", place[1], 0))

    def spare_with(self, word):
        """A spare register that holds a word of the frame, None if there is none."""
        for spare in self.spares:
            if self.kept_words.get(spare) == word:
                return spare
        return None

    def fetched(self, temp, busy=None):
        """The register with what a temp holds; a busy register is left as it is."""
        kind, at = self.places[temp]
        if kind == "register":
            return at
        spare = self.spare_with(at)
        if spare is None:
            spare = self.free_spare(busy)
            self.written.append(("get", spare, at))
            self.kept_words[spare] = at
        return spare

    def free_spare(self, busy):
        """A spare register other than the busy one, best one that holds no word."""
        free = [spare for spare in self.spares if spare != busy]
        return ([spare for spare in free if spare not in self.kept_words] + free)[0]

    def fetched_both(self, one, other):
        """The registers with what two temps hold."""
        first = self.fetched(one)
        return first, self.fetched(other, first)

    def give(self, temp, is_alive, word, behind):
        """Writes a cell that gives a temp: its word and what stands behind the register that it writes are told."""
        kind, at = self.places[temp]
        if kind == "register":
            self.written.append((word, at) + behind)
            return
        spare = self.free_spare(None)
        self.written.append((word, spare) + behind)
        self.kept_words.pop(spare, None)
        if is_alive:
            self.keep(at, spare)
            self.kept_words[spare] = at

    def keep(self, word, r):
        """Writes a cell that keeps a register in a word of the frame."""
        self.written.append(("keep", word, r))
        for spare in self.spares:
            if self.kept_words.get(spare) == word and spare != r:
                self.kept_words.pop(spare)

    def add_step(self, step, is_alive):
        """Writes the cells of a step."""
        word = step[0]
        if word in NINE or word == "index":
            self.give(step[1], is_alive, word, self.fetched_both(step[2], step[3]) + step[4:])
        elif word == "copy":
            self.add_copy(step[1], step[2])
        elif word == "const":
            self.give(step[1], is_alive, "set", step[2:])
        elif word == "ask":
            self.give(step[1], is_alive, word, step[2:])
        elif word == "base":
            self.add_base(step, is_alive)
        elif word == "not" or word == "load" or word == "offset":
            self.give(step[1], is_alive, word, (self.fetched(step[2]),) + step[3:])
        else:
            self.add_giftless(step)

    def add_giftless(self, step):
        """Writes the cells of a step that gives no temp."""
        word = step[0]
        if word == "save":
            self.written.append((word,) + self.fetched_both(step[1], step[2]))
        elif word == "clear":
            self.written.append((word, first_word(self.code, step[1]), self.code[3][step[1]]))
        elif word == "show":
            self.written.append((word, step[1], self.fetched(step[2]), step[3]))
        else:
            self.written.append((word, self.fetched(step[1])) + step[2:])

    def add_copy(self, temp, source):
        """Writes the cells of a copy."""
        kind, at = self.places[temp]
        if self.places[temp] == self.places[source]:
            return
        if kind == "word":
            self.keep(at, self.fetched(source))
        else:
            self.bring(at, source)

    def bring(self, r, temp):
        """Writes the cell that brings what a temp holds to a register, if it is not there."""
        kind, at = self.places[temp]
        source = at if kind == "register" else self.spare_with(at)
        if source is None:
            self.written.append(("get", r, at))
        elif source != r:
            self.written.append(("move", r, source))

    def add_base(self, step, is_alive):
        """Writes the cells of a base."""
        kind, area = step[2]
        if kind == "slot":
            self.give(step[1], is_alive, "base", (first_word(self.code, area),))
        else:
            self.give(step[1], is_alive, "store", (area,))

    def add_ending(self, ending, waiting):
        """Writes the cells of an ending; tells the block that has to follow at once, None if any may."""
        word = ending[0]
        if word == "jump":
            if ending[1] not in self.starts:
                return ending[1]
            self.written.append(ending)
        elif word == "test":
            self.written.append(("unless", self.fetched(ending[1]), ending[3]))
            waiting.append(ending[3])
            return ending[2]
        elif word == "give":
            if ending[1] is not None:
                self.bring(0, ending[1])
            self.written.append(("return",))
        elif word == "call":
            for at, arg in enumerate(ending[3]):
                self.keep(self.frame + LINK_WORDS + at, self.fetched(arg))
            self.written.append(("call", ending[2], self.frame))
            return ending[4]
        elif word == "last":
            self.hand_on(ending[2])
            self.written.append(("last", ending[1]))
        else:
            self.written.append(ending)
        return None

    def hand_on(self, passed):
        """Brings args to the first words of the frame, all at once: some may lie where others go."""
        left = {word: self.places[arg] for word, arg in enumerate(passed) if self.places[arg] != ("word", word)}
        saved, way = self.spares
        while left:
            free = [word for word in left if ("word", word) not in list(left.values())]
            if free:
                self.move_word(free[0], left.pop(free[0]), way)
            else:
                # words in a ring: what stands in one of them is saved, so that something may come there
                word = list(left)[0]
                self.written.append(("get", saved, word))
                for other in list(left):
                    if left[other] == ("word", word):
                        left[other] = ("register", saved)

    def move_word(self, word, place, way):
        """Brings what a place holds to a word of the frame, by way of a register."""
        kind, at = place
        if kind == "word":
            self.written.append(("get", way, at))
            at = way
        self.written.append(("keep", word, at))
