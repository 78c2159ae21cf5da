"""The walk of one block of a code beside the cells that are to do what it does."""

from labelclocks.cells import CELL_FORMS, MOST_BEHIND
from labelclocks.colouring import first_word
from labelclocks.emitting import LINK_WORDS, QUIET_WORDS
from labelclocks.worths import Holders, Worths, link

# cells that nobody sees; get and keep are such for some words of the frame, too
QUIET_CELLS = (
    "set", "move", "plus", "minus", "times", "less", "same", "and", "or", "not", "base", "store", "index", "offset",
    "jump",
)


class Walk:
    """The walk of a block; behind a question that is answered by no, trouble is the address that a refusal tells."""

    def __init__(self, code, placing, paper, block):
        self.code = code
        self.placed_cells, self.frame = placing
        self.paper = paper
        self.block = block
        self.worths = Worths()
        self.temps = Holders(self.worths)
        self.places = Holders(self.worths)
        self.at, held = paper[block]
        link(self.temps, self.places, held)
        # the words of the slots: from the first number on, ahead of the second one
        self.slot_bounds = (first_word(code, 0), first_word(code, len(code[3])))
        self.are_slots_over = False
        self.trouble = None

    def refusal(self):
        """None if the walk comes through, otherwise the triple (block, at, address)."""
        label, steps, ending = self.code[4][self.block]
        if not self.meets_begin(label):
            return self.block, -1, self.trouble
        for at, step in enumerate(steps):
            if not self.meets_step(step):
                return self.block, at, self.trouble
        if not self.meets_ending(ending):
            return self.block, len(steps), self.trouble
        return None

    def temp_worth(self, temp):
        """What a temp holds."""
        return self.temps.worth_of(temp)

    def register_worth(self, r):
        """What a register holds."""
        return self.places.worth_of(("register", r))

    def is_quiet(self, cell):
        """Whether a cell is silent here."""
        if cell[0] != "get" and cell[0] != "keep":
            return cell[0] in QUIET_CELLS
        word = cell[2] if cell[0] == "get" else cell[1]
        if self.slot_bounds[0] <= word < self.slot_bounds[1]:
            return self.are_slots_over
        return word <= self.frame + MOST_BEHIND

    def comes_to(self, target):
        """Whether silent cells lead to an address; for None, whether they lead to a loud cell."""
        met = {}
        while self.at != target:
            self.trouble = self.at
            if self.at >= len(self.placed_cells) or self.at in met:
                return False
            if not self.is_quiet(self.placed_cells[self.at]):
                return target is None
            met[self.at] = True
            self.do_cell(self.placed_cells[self.at])
        return True

    def do_cell(self, cell):
        """Does a silent cell."""
        word = cell[0]
        self.at += 1
        if word == "jump":
            self.at = cell[1]
        elif word == "keep":
            self.places.hold(("word", cell[1]), self.register_worth(cell[2]))
        elif word == "get":
            self.places.hold(("register", cell[1]), self.places.worth_of(("word", cell[2])))
        else:
            self.places.hold(("register", cell[1]), self.worth_made(cell, self.register_worth))

    def worth_made(self, cell, told_of):
        """What a silent cell gives; told_of tells what each one holds that it reads."""
        if cell[0] == "move":
            return told_of(cell[2])
        key = [cell[0]]
        for at, form in enumerate(CELL_FORMS[cell[0]][1:]):
            key.append(told_of(cell[at + 2]) if form == "of" else cell[at + 2])
        return self.worths.made(tuple(key))

    def as_cell(self, step):
        """The cell that does what a step does, with temps in the place of registers."""
        word = step[0]
        if word == "const":
            return ("set",) + step[1:]
        if word == "copy":
            return ("move",) + step[1:]
        if word == "clear":
            return word, first_word(self.code, step[1]), self.code[3][step[1]]
        if word == "base" and step[2][0] == "store":
            return "store", step[1], step[2][1]
        if word == "base":
            return word, step[1], first_word(self.code, step[2][1])
        return step

    def meets_begin(self, label):
        """Whether the room, if the block is block 0, and the mark of the label, if there is one, come next."""
        wanted = [("room", self.frame)] if self.block == 0 else []
        if label is not None:
            wanted.append(("mark", label))
        for cell in wanted:
            if not self.comes_to(None) or self.placed_cells[self.at] != cell or cell[0] == "room" and self.at != 0:
                return False
            self.at += 1
        return True

    def meets_step(self, step):
        """Whether a step that is silent is done, or a cell that does the same as a loud one comes next."""
        cell = self.as_cell(step)
        if step[0] in QUIET_WORDS:
            self.temps.hold(step[1], self.worth_made(cell, self.temp_worth))
            return True
        if not self.comes_to(None) or not self.does_same(cell, self.placed_cells[self.at]):
            return False
        if CELL_FORMS[cell[0]][0] == "to":
            given = self.worths.fresh()
            self.temps.hold(cell[1], given)
            self.places.hold(("register", self.placed_cells[self.at][1]), given)
        self.at += 1
        return True

    def does_same(self, one, other):
        """Whether a cell does what another one does that has temps in the place of registers."""
        if one[0] != other[0]:
            return False
        for at, form in enumerate(CELL_FORMS[one[0]]):
            if form == "of" and self.temp_worth(one[at + 1]) != self.register_worth(other[at + 1]):
                return False
            if form != "of" and form != "to" and one[at + 1] != other[at + 1]:
                return False
        return True

    def meets_ending(self, ending):
        """Whether the cell of an ending comes next, and behind it all leads to the goals."""
        word = ending[0]
        if word == "jump":
            return self.leads_to(ending[1])
        self.are_slots_over = word == "last"
        if not self.comes_to(None):
            return False
        cell = self.placed_cells[self.at]
        if word == "test":
            return cell[0] == "unless" and self.does_test(cell, ending)
        if word == "call":
            is_met = cell == ("call", ending[2], self.frame) and self.are_handed(ending[3], self.frame + LINK_WORDS)
            return is_met and self.comes_back(ending)
        if word == "last":
            return cell == ("last", ending[1]) and self.are_handed(ending[2], 0)
        if word == "fail":
            return cell == ending
        return cell == ("return",) and (ending[1] is None or self.register_worth(0) == self.temp_worth(ending[1]))

    def are_handed(self, passed, first):
        """Whether the words from a first one on hold these args."""
        for at, temp in enumerate(passed):
            if self.places.worth_of(("word", first + at)) != self.temp_worth(temp):
                return False
        return True

    def does_test(self, cell, ending):
        """Whether an unless asks what a test asks, and both ways lead to the goals."""
        if self.register_worth(cell[1]) != self.temp_worth(ending[1]):
            return False
        places = self.places.twin()
        self.at += 1
        if not self.leads_to(ending[2]):
            return False
        self.places = places
        self.at = cell[2]
        return self.leads_to(ending[3])

    def comes_back(self, ending):
        """Whether what is behind a call leads to its goal."""
        places = Holders(self.worths)
        for place in self.places.held:
            # what the callee does is unknown, but it leaves the words of this frame alone
            if place[0] == "word" and place[1] < self.frame:
                places.hold(place, self.places.worth_of(place))
        self.places = places
        if ending[1] is not None:
            self.temps.hold(ending[1], self.register_worth(0))
        self.at += 1
        return self.leads_to(ending[4])

    def leads_to(self, goal):
        """Whether silent cells lead to where a goal begins, and there all holds what the paper tells."""
        if goal not in self.paper:
            self.trouble = None
            return False
        target, held = self.paper[goal]
        if not self.comes_to(target):
            return False
        self.trouble = target
        return all([self.places.worth_of(place) == self.temp_worth(temp) for place, temp in held])
