"""The items of a run, their stations, and the inputs that it asks for."""

from labelclocks.errors import BadInputs, BadMany, TooLong
from labelclocks.values import is_list, is_within

MOST_ITEMS = 100000
MOST_INPUTS = 400
MOST_INPUT = 9999
RUNNING = "running"
ENDED = "ended"
FAILED = "failed"


def need_inputs(inputs):
    """Raises BadInputs unless inputs are a list of inputs."""
    if not is_list(inputs) or len(inputs) > MOST_INPUTS or not all([is_within(n, 0, MOST_INPUT) for n in inputs]):
        raise BadInputs("no list of inputs")


class Tape:
    """What a run has made so far, and what it still can ask."""

    def __init__(self, inputs, size):
        self.given_inputs = list(inputs)
        self.size = size
        self.asked = 0
        self.row = []
        self.marks = []
        self.mode = RUNNING

    def bound(self, many):
        """How many items there are when so many more are made; BadMany, TooLong if that cannot be."""
        if not is_within(many, 0, MOST_ITEMS):
            raise BadMany("no number of items")
        if len(self.row) + many > MOST_ITEMS:
            raise TooLong(MOST_ITEMS)
        return len(self.row) + many

    def goes_on(self, bound):
        """Whether the run has to go on to have so many items."""
        return self.mode == RUNNING and len(self.row) < bound

    def make(self, item, station):
        """A further item."""
        self.row.append(item)
        self.marks.append(station)

    def end(self):
        """The item at the end of a run."""
        self.make(("end",), None)
        self.mode = ENDED

    def fail(self, why, station):
        """The item of a run that fails."""
        self.make(("failed", why), station)
        self.mode = FAILED

    def ask(self, station):
        """The next input, as it is told ahead of the modulo; its item is made."""
        told = 0
        if self.asked < len(self.given_inputs):
            told = self.given_inputs[self.asked]
            self.asked += 1
        self.make(("asked", told % self.size), station)
        return told

    def left(self):
        """The inputs that were not asked."""
        return self.given_inputs[self.asked:]

    def twin(self):
        """A tape that tells the same, and goes its own way."""
        other = Tape(self.given_inputs, self.size)
        other.asked = self.asked
        other.row = list(self.row)
        other.marks = list(self.marks)
        other.mode = self.mode
        return other
