"""What the cells of an image do to a machine whose next address is that of the cell behind them already."""

from labelclocks.signs import DIVIDING, joined

# two words of a further call and four args
ROOM_BEHIND = 6
# the words of a call: where it goes on, and how large the caller's frame is
LINK_WORDS = 2


def astray(machine):
    """Lets the run fail."""
    machine.tape.fail("astray", None)


def _is_beyond(machine, address):
    """Whether an address lies beyond the memory."""
    return address >= len(machine.memory)


def _set(machine, cell):
    machine.file[cell[1]] = cell[2]


def _move(machine, cell):
    machine.file[cell[1]] = machine.file[cell[2]]


def _join(machine, cell):
    word, r, one, other = cell
    if word in DIVIDING and machine.file[other] == 0:
        astray(machine)
    else:
        machine.file[r] = joined(word, machine.file[one], machine.file[other]) % machine.code_image[1]


def _not(machine, cell):
    machine.file[cell[1]] = int(machine.file[cell[2]] == 0)


def _get(machine, cell):
    _load_word(machine, cell[1], machine.sp + cell[2])


def _load(machine, cell):
    _load_word(machine, cell[1], machine.file[cell[2]])


def _load_word(machine, r, address):
    if _is_beyond(machine, address):
        astray(machine)
    else:
        machine.file[r] = machine.memory[address]


def _keep(machine, cell):
    _save_word(machine, machine.sp + cell[1], machine.file[cell[2]])


def _save(machine, cell):
    _save_word(machine, machine.file[cell[1]], machine.file[cell[2]])


def _save_word(machine, address, number):
    if _is_beyond(machine, address):
        astray(machine)
    else:
        machine.memory[address] = number


def _clear(machine, cell):
    first = machine.sp + cell[1]
    if _is_beyond(machine, first + cell[2] - 1):
        astray(machine)
    else:
        machine.memory[first:first + cell[2]] = [0] * cell[2]


def _base(machine, cell):
    machine.file[cell[1]] = machine.sp + cell[2]


def _index(machine, cell):
    _, r, address, number, words, offset = cell
    machine.file[r] = machine.file[address] + machine.file[number] * words + offset


def _offset(machine, cell):
    machine.file[cell[1]] = machine.file[cell[2]] + cell[3]


def _check(machine, cell):
    if machine.file[cell[1]] >= cell[2]:
        machine.tape.fail("bounds", cell[3])


def _divisor(machine, cell):
    if machine.file[cell[1]] == 0:
        machine.tape.fail("zero", cell[2])


def _show(machine, cell):
    machine.tape.make(("shown", cell[1], machine.file[cell[2]]), cell[3])


def _ask(machine, cell):
    machine.file[cell[1]] = machine.tape.ask(cell[2]) % machine.code_image[1]


def _fail(machine, cell):
    machine.tape.fail(cell[1], cell[2])


def _jump(machine, cell):
    machine.at = cell[1]


def _unless(machine, cell):
    if machine.file[cell[1]] == 0:
        machine.at = cell[2]
        machine.spent += machine.beats_book["taken"]


def _call(machine, cell):
    _, goal, frame = cell
    link = machine.sp + frame
    if _is_beyond(machine, link + 1):
        astray(machine)
        return
    machine.memory[link] = machine.at
    machine.memory[link + 1] = frame
    machine.sp = link + LINK_WORDS
    machine.at = goal


def _return(machine, cell):
    # so these words are there if the stack pointer does not come below the stores
    link = machine.sp - LINK_WORDS
    if link < machine.code_image[3] or link - machine.memory[link + 1] < machine.code_image[3]:
        astray(machine)
        return
    machine.at = machine.memory[link]
    machine.sp = link - machine.memory[link + 1]


def _room(machine, cell):
    if machine.sp + cell[1] + ROOM_BEHIND > len(machine.memory):
        machine.tape.fail("room", None)


def _halt(machine, cell):
    machine.tape.end()


ACTIONS = {
    "set": _set, "move": _move, "plus": _join, "minus": _join, "times": _join, "over": _join, "rest": _join,
    "less": _join, "same": _join, "and": _join, "or": _join, "not": _not, "get": _get, "keep": _keep, "clear": _clear,
    "load": _load, "save": _save, "base": _base, "point": _set, "index": _index, "offset": _offset, "check": _check,
    "divisor": _divisor, "show": _show, "ask": _ask, "fail": _fail, "jump": _jump, "unless": _unless, "call": _call,
    "last": _jump, "return": _return, "room": _room, "halt": _halt,
}
