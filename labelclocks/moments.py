"""What a bench is at a moment, but for what is kept: never changed, so that moments can be come back to."""

from labelclocks.compiling import compiled
from labelclocks.linking import linked
from labelclocks.machine import Machine


class Making:
    """What a unit was made to, and the words and registers by which it was."""

    def __init__(self, unit, words, registers):
        self.thing = compiled(unit, words, registers)
        self.words = tuple(words)
        self.registers_told = registers


class Moment:
    """Units, their makings by names, the order in which they are linked, a book, a room, inputs, image and machine."""

    def __init__(self, units, makings, order, price_book, stack_room, given_inputs, code_image, engine):
        self.units = units
        self.makings = makings
        self.order = order
        self.price_book = price_book
        self.stack_room = stack_room
        self.given_inputs = given_inputs
        self.code_image = code_image
        self.engine = engine

    def objects(self):
        """The objects as they are linked."""
        return [self.makings[name].thing for name in self.order]

    def main(self):
        """The name of the unit with which a run begins."""
        return self.units[0][0]

    def unit_named(self, name):
        """The unit with a name."""
        return [unit for unit in self.units if unit[0] == name][0]

    def objects_with(self, name, making):
        """The objects as they are linked, with another one for a unit."""
        return [making.thing if other == name else self.makings[other].thing for other in self.order]

    def with_units(self, units, makings, order):
        """A moment with other units, at the beginning of a run."""
        return begun(units, makings, order, self.price_book, self.stack_room, self.given_inputs)

    def with_making(self, name, making):
        """A moment with another making of a unit, at the beginning of a run."""
        makings = {other: self.makings[other] for other in self.makings}
        makings[name] = making
        return self.with_units(self.units, makings, self.order)

    def with_book(self, book):
        """A moment with another book, at the beginning of a run."""
        return begun(self.units, self.makings, self.order, book, self.stack_room, self.given_inputs)

    def with_room(self, room):
        """A moment with another room, at the beginning of a run."""
        return begun(self.units, self.makings, self.order, self.price_book, room, self.given_inputs)

    def with_inputs(self, inputs):
        """A moment with other inputs, at the beginning of a run."""
        return begun(self.units, self.makings, self.order, self.price_book, self.stack_room, inputs)

    def further(self, steps):
        """A moment at which the machine has done so many steps more."""
        engine = self.engine.copy()
        engine.go(steps)
        return Moment(
            self.units, self.makings, self.order, self.price_book, self.stack_room, self.given_inputs,
            self.code_image, engine)


def begun(units, makings, order, price_book, stack_room, given_inputs):
    """The moment at which a run has just begun."""
    objects = [makings[name].thing for name in order]
    image = linked(objects, units[0][0], stack_room)
    engine = Machine(image, given_inputs, price_book)
    return Moment(units, makings, order, price_book, stack_room, given_inputs, image, engine)
