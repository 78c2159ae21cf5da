"""All errors of the package: each one stands directly under ClockError."""


class ClockError(ValueError):
    """What all errors of this package are."""


class BadAddress(ClockError):
    """No address of the machine's memory."""


class BadBeats(ClockError):
    """No number of beats."""


class BadBook(ClockError):
    """No book of beats."""


class BadBooks(ClockError):
    """No list of books of beats."""


class BadCell(ClockError):
    """No cell of a machine."""


class BadChain(ClockError):
    """No chain of calls."""


class BadDen(ClockError):
    """No denominator."""


class BadFunction(ClockError):
    """No number of a function."""


class BadImage(ClockError):
    """No image."""


class BadInputs(ClockError):
    """No list of inputs."""


class BadItems(ClockError):
    """No number of items."""


class BadKind(ClockError):
    """No kind."""


class BadLabel(ClockError):
    """No label."""


class BadLabelText(ClockError):
    """No text of a label."""


class BadMany(ClockError):
    """No number of items to go on by."""


class BadName(ClockError):
    """No name."""


class BadNames(ClockError):
    """No names."""


class BadNeeded(ClockError):
    """Neither True nor False."""


class BadObject(ClockError):
    """No object of a unit."""


class BadObjects(ClockError):
    """No objects that fit one another."""


class BadOrder(ClockError):
    """No order of all units."""


class BadPaper(ClockError):
    """No paper."""


class BadPath(ClockError):
    """No path of a node."""


class BadPlacing(ClockError):
    """No placing."""


class BadPrices(ClockError):
    """No prices."""


class BadProgram(ClockError):
    """No program."""


class BadReading(ClockError):
    """No reading."""


class BadReadings(ClockError):
    """No readings by names of units."""


class BadRegisters(ClockError):
    """No number of registers."""


class BadRoads(ClockError):
    """No book of roads."""


class BadRoom(ClockError):
    """No room of the stack."""


class BadRounds(ClockError):
    """No bounds of rounds."""


class BadRows(ClockError):
    """No rows."""


class BadSides(ClockError):
    """No sides."""


class BadSlot(ClockError):
    """No number of a slot."""


class BadSpot(ClockError):
    """No spot in a block."""


class BadSteps(ClockError):
    """No number of steps."""


class BadTemp(ClockError):
    """No temp."""


class BadTop(ClockError):
    """No top of a walk."""


class BadTrace(ClockError):
    """No trace."""


class BadTrail(ClockError):
    """No trail of a kind."""


class BadUnit(ClockError):
    """No unit."""


class BadWeb(ClockError):
    """No web."""


class BadWeights(ClockError):
    """No weights."""


class BadWord(ClockError):
    """No pass word."""


class BadWords(ClockError):
    """No words of a web."""


class NoMain(ClockError):
    """No main that can be begun."""


class NoRoad(ClockError):
    """No road."""


class NotHere(ClockError):
    """What a pass looks for does not stand here."""


class NotLed(ClockError):
    """Not led by labels."""


class NothingDone(ClockError):
    """No deed stands."""


class TooLarge(ClockError):
    """More than the limits let in."""


class UnlikeSides(ClockError):
    """Sides that do not belong together."""


class UnlikeSizes(ClockError):
    """Units of unlike sizes."""


class BadLabels(ClockError):
    """The item at an index is no label that fits; -1 for no list."""

    def __init__(self, index):
        ClockError.__init__(self, "the item at an index is no label that fits; -1 for no list")
        self.index = index


class BadPasses(ClockError):
    """The item at an index is no pass word; -1 for no list."""

    def __init__(self, index):
        ClockError.__init__(self, "the item at an index is no pass word; -1 for no list")
        self.index = index


class BadPassesText(ClockError):
    """The text at an index is none of a pass word."""

    def __init__(self, index):
        ClockError.__init__(self, "the text at an index is none of a pass word")
        self.index = index


class BadText(ClockError):
    """A text has a wrong token at a line and a column."""

    def __init__(self, line, column):
        ClockError.__init__(self, "a text has a wrong token at a line and a column")
        self.line = line
        self.column = column


class Missing(ClockError):
    """A use of a unit is met by nothing."""

    def __init__(self, unit, index):
        ClockError.__init__(self, "a use of a unit is met by nothing")
        self.unit = unit
        self.index = index


class NoLabel(ClockError):
    """The item at an index has no label."""

    def __init__(self, index):
        ClockError.__init__(self, "the item at an index has no label")
        self.index = index


class NoStore(ClockError):
    """No unit has such a store."""

    def __init__(self, unit, store):
        ClockError.__init__(self, "no unit has such a store")
        self.unit = unit
        self.store = store


class NoUnit(ClockError):
    """No unit has this name."""

    def __init__(self, name):
        ClockError.__init__(self, "no unit has this name")
        self.name = name


class NotKept(ClockError):
    """No moment is kept by this name."""

    def __init__(self, name):
        ClockError.__init__(self, "no moment is kept by this name")
        self.name = name


class TooLong(ClockError):
    """More items than the most that there can be."""

    def __init__(self, most):
        ClockError.__init__(self, "more items than the most that there can be")
        self.most = most


class TooMany(ClockError):
    """More than the most that there can be."""

    def __init__(self, most):
        ClockError.__init__(self, "more than the most that there can be")
        self.most = most


class Twice(ClockError):
    """A name stands twice."""

    def __init__(self, name):
        ClockError.__init__(self, "a name stands twice")
        self.name = name


class Unlike(ClockError):
    """A use of a unit is met by something unlike."""

    def __init__(self, unit, index):
        ClockError.__init__(self, "a use of a unit is met by something unlike")
        self.unit = unit
        self.index = index
