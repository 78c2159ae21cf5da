"""A bench on which units are edited, compiled anew, exchanged, linked and run."""

from labelclocks.books import even_book, need_book
from labelclocks.errors import (
    BadName, BadOrder, BadProgram, BadRoom, BadSteps, NoUnit, NothingDone, NotKept,
)
from labelclocks.images import is_room
from labelclocks.kinds import is_name
from labelclocks.linking import linked
from labelclocks.moments import Making, begun
from labelclocks.tapes import need_inputs
from labelclocks.telling import Telling, listing_of
from labelclocks.units import is_program, need_unit
from labelclocks.values import is_list, is_whole

FIRST_WORDS = ()
FIRST_REGISTERS = 8
FIRST_ROOM = 2000
MOST_STEPS = 20000


class Bench:
    """A program, what its units were made to, and the machine that runs them.

    What these attributes hold is never changed, but exchanged: so each moment can be come back to.
    """

    def __init__(self, program, book=None):
        if not is_program(program):
            raise BadProgram("no program")
        if book is not None:
            need_book(book)
        self.first_units = program
        self.first_book = even_book(1) if book is None else dict(book)
        makings = {unit[0]: Making(unit, FIRST_WORDS, FIRST_REGISTERS) for unit in program}
        self.moment = begun(program, makings, tuple(makings), self.first_book, FIRST_ROOM, ())
        # the moments that are kept, by names
        self.saved = {}
        # the deeds that stand, and for each of them the moment, and what was kept, ahead of it
        self.deeds = ()
        self.past = ()

    def put(self, unit):
        """Puts a unit in the place of the one with its name, or behind the last one."""
        need_unit(unit)
        old = self.moment
        is_new = unit[0] not in old.makings
        units = tuple([unit if other[0] == unit[0] else other for other in old.units]) + ((unit,) if is_new else ())
        if not is_program(units):
            raise BadProgram("no program with this unit")
        if is_new:
            making = Making(unit, FIRST_WORDS, FIRST_REGISTERS)
        else:
            making = Making(unit, old.makings[unit[0]].words, old.makings[unit[0]].registers_told)
        makings = {name: old.makings[name] for name in old.makings}
        makings[unit[0]] = making
        order = old.order + ((unit[0],) if is_new else ())
        self._stand(old.with_units(units, makings, order), ("put", unit))

    def drop(self, name):
        """Takes a unit away."""
        self._need_name(name)
        old = self.moment
        units = tuple([unit for unit in old.units if unit[0] != name])
        if not is_program(units):
            raise BadProgram("no program without this unit")
        makings = {other: old.makings[other] for other in old.makings if other != name}
        order = tuple([other for other in old.order if other != name])
        self._stand(old.with_units(units, makings, order), ("drop", name))

    def make(self, name, words, registers):
        """Makes a unit anew, by other words and registers."""
        making = self._making(name, words, registers)
        self._stand(self.moment.with_making(name, making), ("make", name, list(words), registers))

    def arrange(self, names):
        """Links the units in another order."""
        old = self.moment
        if not is_list(names) or not all([isinstance(name, str) for name in names]):
            raise BadOrder("no list of names")
        if sorted(names) != sorted(old.order):
            raise BadOrder("not the names of all units, each one once")
        self._stand(old.with_units(old.units, old.makings, tuple(names)), ("arrange", list(names)))

    def house(self, room):
        """Gives the machine another room."""
        if not is_room(room):
            raise BadRoom("no room")
        self._stand(self.moment.with_room(room), ("house", room))

    def charge(self, book):
        """Takes another book of beats."""
        need_book(book)
        self._stand(self.moment.with_book(dict(book)), ("charge", dict(book)))

    def begin(self, inputs):
        """Has the machine begin, with other inputs."""
        need_inputs(inputs)
        self._stand(self.moment.with_inputs(tuple(inputs)), ("begin", list(inputs)))

    def go(self, steps):
        """Has the machine do so many steps more."""
        if not is_whole(steps) or steps < 0 or self.moment.engine.steps() + steps > MOST_STEPS:
            raise BadSteps("no number of steps")
        self._stand(self.moment.further(steps), ("go", steps))

    def keep(self, name):
        """Keeps this moment by a name."""
        if not is_name(name):
            raise BadName("no name")
        saved = {other: self.saved[other] for other in self.saved}
        saved[name] = self.moment
        self._stand(self.moment, ("keep", name))
        self.saved = saved

    def back(self, name):
        """Goes back to a moment that is kept."""
        if not isinstance(name, str) or name not in self.saved:
            raise NotKept(name)
        self._stand(self.saved[name], ("back", name))

    def undo(self):
        """Takes the last deed back that stands."""
        if not self.deeds:
            raise NothingDone("no deed stands")
        self.moment, self.saved = self.past[-1]
        self.past = self.past[:-1]
        self.deeds = self.deeds[:-1]

    @property
    def program(self):
        """The program."""
        return self.moment.units

    @property
    def names(self):
        """The list of the names of the units as they are linked."""
        return list(self.moment.order)

    @property
    def book(self):
        """The book of beats."""
        return dict(self.moment.price_book)

    @property
    def room(self):
        """The room of the machine."""
        return self.moment.stack_room

    @property
    def inputs(self):
        """The list of the inputs."""
        return list(self.moment.given_inputs)

    @property
    def kept(self):
        """The ascending list of the names by which moments are kept."""
        return sorted(self.saved)

    @property
    def log(self):
        """The list of the deeds that stand."""
        return [tuple([_part_copy(part) for part in deed]) for deed in self.deeds]

    def ways(self, name):
        """The pair of the words and the registers by which a unit was made."""
        self._need_name(name)
        making = self.moment.makings[name]
        return list(making.words), making.registers_told

    def made(self, name):
        """The object of a unit."""
        self._need_name(name)
        return self.moment.makings[name].thing

    def image(self):
        """The image that the machine runs."""
        return self.moment.code_image

    def machine(self):
        """A machine that tells the same as the bench's own, and goes its own way."""
        return self.moment.engine.copy()

    def source(self):
        """The pair of the trace and the stations of the program's own run, as far as the machine has shown it."""
        run = Telling(self.moment).run
        return run.trace(), run.stations()

    def told(self):
        """The list of triples (item, clock, stack) that the source tells of what the machine has shown."""
        return Telling(self.moment).triples

    def would(self, name, words, registers):
        """The triples (item, clock, the clock if a unit were made so) for the items that are no labels."""
        making = self._making(name, words, registers)
        objects = self.moment.objects_with(name, making)
        # for the errors of linking
        linked(objects, self.moment.main(), self.moment.stack_room)
        return Telling(self.moment).beside(objects)

    def profile(self):
        """The ascending list of tuples (unit, label, times, beats): where the beats up to the last item went."""
        return Telling(self.moment).profile()

    def listing(self, name):
        """The list of pairs of a line of a unit's text and the labels in it with what they cost."""
        self._need_name(name)
        return listing_of(self.moment.unit_named(name), self.made(name), self.moment.price_book)

    def copy(self):
        """An independent bench that is equal."""
        twin = Bench(self.first_units, self.first_book)
        twin.moment, twin.saved = self.moment, self.saved
        twin.deeds, twin.past = self.deeds, self.past
        return twin

    def tried(self, task):
        """What a function returns for the bench; if it raises an error, all is as it was."""
        moment, saved, deeds, past = self.moment, self.saved, self.deeds, self.past
        is_over = None
        try:
            answer = task(self)
            is_over = True
            return answer
        finally:
            if is_over is None:
                self.moment, self.saved = moment, saved
                self.deeds, self.past = deeds, past

    def __len__(self):
        """How many deeds stand."""
        return len(self.deeds)

    def __eq__(self, other):
        """Whether another bench was made of the same, and the same deeds stand."""
        if not isinstance(other, Bench):
            return False
        if self.first_units != other.first_units or self.first_book != other.first_book:
            return False
        return self.deeds == other.deeds

    def _need_name(self, name):
        if not isinstance(name, str) or name not in self.moment.makings:
            raise NoUnit(name)

    def _making(self, name, words, registers):
        """What a unit would be made to."""
        self._need_name(name)
        return Making(self.moment.unit_named(name), words, registers)

    def _stand(self, moment, deed):
        """Lets a deed stand behind which the bench is at a moment."""
        self.past = self.past + ((self.moment, self.saved),)
        self.deeds = self.deeds + (deed,)
        self.moment = moment


def _part_copy(part):
    """A copy of a part of a deed that is the caller's own."""
    if isinstance(part, list):
        return list(part)
    return dict(part) if isinstance(part, dict) else part
