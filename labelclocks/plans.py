"""What the units of a text that were read ask of what is still to come."""

from labelclocks.heads import MOST_FUNCTIONS, MOST_UNITS

# for a unit alone: it may use what it likes, as no program need hold all of it
UNBOUNDED = 1000
MAIN = ((), None)


class Plan:
    """The heads of the functions of units, read ones and those that were used ahead of being read.

    A head is a pair (ways, result), ways a tuple of pairs (way, kind).
    """

    def __init__(self, is_program):
        self.is_program = is_program
        self.most_units = MOST_UNITS if is_program else UNBOUNDED
        self.most_functions = MOST_FUNCTIONS if is_program else UNBOUNDED
        self.size = None
        # both from names of units to dicts from names of functions to heads
        self.known = {}
        self.owed = {}

    def has_room(self):
        """Whether a unit can come that nothing has told of yet."""
        return len(self.known) + len(self.owed) < self.most_units

    def needed_heads(self, name):
        """The heads that the unit must have that begins now; it is known from here on."""
        needed = self.owed.pop(name, {})
        if self.is_program and not self.known:
            needed = {"main": MAIN}
        self.known[name] = {}
        return needed

    def head_told(self, unit, function):
        """The head that a function of another unit has, None if nothing has told of it."""
        heads = self.known[unit] if unit in self.known else self.owed.get(unit, {})
        return heads.get(function)

    def keep_use(self, unit, function, head):
        """Keeps what a use has told."""
        if unit not in self.known:
            self.owed.setdefault(unit, {})[function] = head

    def is_function_free(self, unit):
        """Whether a use of a unit may name a function that nothing has told of."""
        return unit not in self.known and len(self.owed.get(unit, {})) < self.most_functions

    def functions_left(self, unit, used):
        """The functions told of a unit that no use has named; used holds the pairs of names that were."""
        heads = self.known[unit] if unit in self.known else self.owed.get(unit, {})
        return [function for function in heads if (unit, function) not in used]

    def others(self, own):
        """The names of all units told but for one."""
        return [name for name in list(self.known) + list(self.owed) if name != own]

    def units_left(self, own, used):
        """Those of the others that have a function which a use can still name."""
        return [
            name for name in self.others(own) if self.is_function_free(name) or self.functions_left(name, used)
        ]
