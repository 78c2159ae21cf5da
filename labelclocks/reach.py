"""What a body that is read can name, and which of it leads to what is wanted, no deeper than there is room."""

from labelclocks.bodies import MOST_NODES_DEEP
from labelclocks.kinds import is_plain

# more steps than there is room for anywhere
FAR = 1000


def steps_to(kind, wanted):
    """The least number of steps from a kind to an inner kind that is among the wanted ones."""
    if kind in wanted:
        return 0
    if is_plain(kind):
        return FAR
    if kind[0] == "row":
        return 1 + steps_to(kind[2], wanted)
    return 1 + min([steps_to(inner, wanted) for _, inner in kind[1]])


class CallHead:
    """Something that a body can call: unit is None for a function of the own unit."""

    def __init__(self, unit, function, callee, ways, result):
        self.unit = unit
        self.function = function
        self.callee = callee
        self.ways_taken = ways
        self.result = result


class Reach:
    """What the body of a function can name: size, names with their kinds, callables, and its own result."""

    def __init__(self, size, names, callables, result):
        self.size = size
        self.kinds_named = names
        self.callables = callables
        self.result = result

    def names_with(self, wanted, height):
        """The names with a part of a wanted kind, for a place of at most so many nodes one in another."""
        return [name for name in self.kinds_named if steps_to(self.kinds_named[name], wanted) < height]

    def calls_at(self, depth, results):
        """The callables with one of these results that a call at this depth can pass all they want."""
        return [
            found for found in self.callables if found.result in results and self.can_call(found, depth)
        ]

    def can_call(self, found, depth):
        """Whether there are args for a callable at this depth."""
        height = MOST_NODES_DEEP - depth
        for way, kind in found.ways_taken:
            if height < 1 or way == "place" and not self.names_with([kind], height):
                return False
        return True
