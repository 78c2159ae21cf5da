"""The machine that runs images, and its clock."""

from labelclocks.actions import ACTIONS, astray
from labelclocks.books import need_book
from labelclocks.errors import BadAddress, BadImage, BadItems, BadSteps
from labelclocks.images import is_image, reads_in_image
from labelclocks.tapes import RUNNING, Tape, need_inputs
from labelclocks.values import is_whole, is_within

MOST_GO = 1000000
WAITED_FOR = ("get", "load")


class Machine:
    """A run of an image."""

    def __init__(self, image, inputs, book):
        if not is_image(image):
            raise BadImage("no image")
        need_inputs(inputs)
        need_book(book)
        self.code_image = image
        self.beats_book = {key: book[key] for key in book}
        self.image_cells = image[5]
        self.tape = Tape(inputs, image[1])
        self.file = [0] * image[2]
        self.memory = [0] * (image[3] + image[4])
        self.sp = image[3]
        # the address of the next cell
        self.at = 0
        self.done = 0
        self.spent = 0
        # the register that the cell done last has loaded, None if it did not load
        self.loaded = None
        # for each item the beats up to it, and the stack at it
        self.times = []
        self.heights = []
        self._pass_marks()

    def go(self, many):
        """Does so many steps more, fewer if the run ends or fails."""
        if not is_within(many, 0, MOST_GO):
            raise BadSteps("no number of steps")
        for _ in range(many):
            if not self._step():
                return

    def reach(self, items, most):
        """Goes on step by step up to so many items, or so many steps: whether there are so many items."""
        if not is_whole(items) or items < 0:
            raise BadItems("no number of items")
        if not is_within(most, 0, MOST_GO):
            raise BadSteps("no number of steps")
        left = most
        while len(self.tape.row) < items and left > 0 and self._step():
            left -= 1
        return len(self.tape.row) >= items

    def trace(self):
        """The list of items."""
        return list(self.tape.row)

    def stations(self):
        """The list of the items' stations."""
        return list(self.tape.marks)

    def clocks(self):
        """The list of the beats up to and with each item's cell."""
        return list(self.times)

    def stacks(self):
        """The list of the words of stack as each item's cell begins."""
        return list(self.heights)

    def steps(self):
        """How many steps were done."""
        return self.done

    def beats(self):
        """How many beats they took."""
        return self.spent

    def state(self):
        """Either "running", "ended" or "failed"."""
        return self.tape.mode

    def left(self):
        """The inputs that were not taken."""
        return self.tape.left()

    def pointer(self):
        """The stack pointer."""
        return self.sp

    def registers(self):
        """The list of what the registers hold."""
        return list(self.file)

    def word(self, address):
        """The word of the memory at an address."""
        if not is_within(address, 0, len(self.memory) - 1):
            raise BadAddress("no address")
        return self.memory[address]

    def copy(self):
        """A machine that tells the same, and goes its own way."""
        twin = Machine(self.code_image, self.tape.given_inputs, self.beats_book)
        twin.tape = self.tape.twin()
        twin.file = list(self.file)
        twin.memory = list(self.memory)
        twin.sp, twin.at = self.sp, self.at
        twin.done, twin.spent, twin.loaded = self.done, self.spent, self.loaded
        twin.times, twin.heights = list(self.times), list(self.heights)
        return twin

    def _step(self):
        """Does a step: whether there was one to do."""
        if self.tape.mode != RUNNING:
            return False
        height = self.sp - self.code_image[3]
        if self.at >= len(self.image_cells):
            astray(self)
            self._note(height)
            return False
        cell = self.image_cells[self.at]
        word = cell[0]
        self.at += 1
        self.done += 1
        self.spent += self.beats_book["store" if word == "point" else word]
        if self.loaded is not None and reads_in_image(cell, self.loaded):
            self.spent += self.beats_book["wait"]
        action = ACTIONS[word]
        action(self, cell)
        self.loaded = cell[1] if word in WAITED_FOR else None
        self._note(height)
        self._pass_marks()
        return True

    def _pass_marks(self):
        """Does the marks that stand next, if the run goes on."""
        while self.tape.mode == RUNNING and self.at < len(self.image_cells) and self.image_cells[self.at][0] == "mark":
            self.tape.make(("label",) + self.image_cells[self.at][1:], None)
            self._note(self.sp - self.code_image[3])
            self.at += 1
            self.loaded = None

    def _note(self, height):
        """Notes the clock and the stack of an item that was made just now, if there is one."""
        if len(self.times) < len(self.tape.row):
            self.times.append(self.spent)
            self.heights.append(height)
