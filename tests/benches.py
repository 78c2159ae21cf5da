"""What a bench shows, and deeds by dice; only for tests."""

from labelclocks.books import even_book
from labelclocks.errors import ClockError
from labelclocks.readtexts import program_of, unit_of
from labelclocks.sourceroads import road_book
from tests.compile import TWO, dice_book
from tests.heart import made_by_dice

# another v, one with a further function, and one that nothing uses
OTHER_V = TWO[TWO.index("unit v"):].replace("t = (t + k)", "t = (t + 3)")
MORE_V = OTHER_V.replace("function note(", "function more()\nfunction note(").replace("body note", "body more\n  fail 3\nbody note")
W = "unit w size 10\nuse u.twice(place number)\nstore q number\nfunction f()\nbody f\n  call u.twice(q)"
UNITS = [unit_of(text) for text in (OTHER_V, MORE_V, W, TWO[TWO.index("unit v"):])]
NAMES = ("u", "v", "w")


def two():
    return program_of(TWO)


def machine_shown(machine):
    return (
        machine.trace(), machine.stations(), machine.clocks(), machine.stacks(), machine.steps(), machine.beats(), machine.state(),
        machine.left(), machine.registers(), machine.pointer())


def shown_now(bench):
    """All that a bench shows of this moment, but what is kept, and log."""
    names = bench.names
    return (
        bench.program, names, bench.book, bench.room, bench.inputs, [bench.ways(name) for name in names],
        [bench.made(name) for name in names], bench.image(), machine_shown(bench.machine()))


def shown(bench):
    """All that a bench shows but what is told ahead."""
    return shown_now(bench), bench.kept, bench.log, len(bench)


def do_deed(bench, deed):
    """Does a deed as it stands in log."""
    deeds = {
        "put": bench.put, "drop": bench.drop, "make": bench.make, "arrange": bench.arrange, "house": bench.house, "charge": bench.charge,
        "begin": bench.begin, "go": bench.go, "keep": bench.keep, "back": bench.back}
    return deeds[deed[0]](*deed[1:])


def deed_by_dice(bench, dice):
    """A deed that may be refused."""
    word = dice.choice(("put", "put", "drop", "make", "make", "make", "arrange", "house", "charge", "begin", "go", "go", "go", "keep", "back"))
    name = dice.choice(NAMES)
    if word == "put":
        return (word, dice.choice(UNITS))
    if word in ("drop", "keep", "back"):
        return (word, dice.choice(NAMES + ("x", "y")))
    if word == "make":
        units = [unit for unit in bench.program if unit[0] == name]
        words = made_by_dice(dice, units[0], 4)[2] if units else []
        return (word, name, words, dice.randint(2, 8))
    if word == "arrange":
        return (word, dice.sample(bench.names, len(bench.names)))
    if word == "house":
        return (word, dice.choice((8, 15, 30, 60, 500, 2000)))
    if word == "charge":
        return (word, dice.choice((dice_book(dice), even_book(2))))
    if word == "begin":
        return (word, [dice.randrange(10) for _ in range(dice.randrange(4))])
    return (word, dice.choice((0, 1, 7, 60, 400)))


def try_deed(bench, deed):
    """Does a deed; whether it stands."""
    try:
        do_deed(bench, deed)
        return True
    except ClockError:
        return False


def readings_at(bench):
    """The readings of a bench's units."""
    return {unit[0]: (bench.made(unit[0])[7], road_book(unit)) for unit in bench.program}
