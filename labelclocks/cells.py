"""The cells of which code for the machine consists, and which registers they read and write.

The form of a cell tells for each item of its tuple behind the word what stands there: a register that the cell writes
("to") or reads ("of"), or another value.
"""

from labelclocks.codelabels import is_code_label, is_station
from labelclocks.errors import BadCell
from labelclocks.heads import MOST_FUNCTIONS, MOST_SIZE
from labelclocks.kinds import DIGITS, LETTERS, MOST_SIGNS
from labelclocks.loose import MOST_AREA, MOST_FAIL, MOST_MANY, MOST_PORT
from labelclocks.values import is_tuple_of, is_tuple_within, is_within

MOST_REGISTERS = 8
LEAST_REGISTERS = 3
MOST_CELLS = 8000
MOST_FRAME = 4000
# the greatest number of a word behind a frame, counted from its end: two for a further call, and four args
MOST_BEHIND = 5
CELL_FORMS = {
    "mark": ("label",),
    "set": ("to", "number"),
    "move": ("to", "of"),
    "plus": ("to", "of", "of"),
    "minus": ("to", "of", "of"),
    "times": ("to", "of", "of"),
    "over": ("to", "of", "of"),
    "rest": ("to", "of", "of"),
    "less": ("to", "of", "of"),
    "same": ("to", "of", "of"),
    "and": ("to", "of", "of"),
    "or": ("to", "of", "of"),
    "not": ("to", "of"),
    "get": ("to", "slot"),
    "keep": ("slot", "of"),
    "clear": ("slot", "words"),
    "load": ("to", "of"),
    "save": ("of", "of"),
    "base": ("to", "slot"),
    "store": ("to", "store"),
    "index": ("to", "of", "of", "words", "offset"),
    "offset": ("to", "of", "offset"),
    "check": ("of", "many", "station"),
    "divisor": ("of", "station"),
    "show": ("port", "of", "station"),
    "ask": ("to", "station"),
    "fail": ("why", "station"),
    "jump": ("goal",),
    "unless": ("of", "goal"),
    "call": ("callee", "frame"),
    "last": ("callee",),
    "return": (),
    "room": ("frame",),
}


def is_cell(value, size, registers, cells):
    """Whether any value is a cell of code with so many cells, for this size and so many registers."""
    if not is_tuple_within(value, 1, 6) or not isinstance(value[0], str) or value[0] not in CELL_FORMS:
        return False
    form = CELL_FORMS[value[0]]
    if len(value) != len(form) + 1:
        return False
    bounds = {"to": registers - 1, "of": registers - 1, "number": size - 1, "goal": cells - 1}
    return all([_is_part(told, value[at + 1], bounds) for at, told in enumerate(form)])


def _is_part(told, part, bounds):
    """Whether an item of a cell is what its form tells."""
    if told in bounds:
        return is_within(part, 0, bounds[told])
    if told == "label":
        return is_code_label(part)
    if told == "station":
        return is_station(part)
    if told == "store":
        return is_store_name(part)
    if told == "callee":
        return is_tuple_of(part, 2) and part[0] in ("own", "use") and is_within(part[1], 0, MOST_FUNCTIONS - 1)
    return is_plain_part(told, part)


def is_plain_part(told, part):
    """Whether an item of a cell is a whole within the bounds that its form tells."""
    if told == "words":
        return is_within(part, 1, MOST_AREA)
    if told == "many":
        return is_within(part, 1, MOST_MANY)
    if told == "slot":
        return is_within(part, 0, MOST_FRAME + MOST_BEHIND)
    if told == "frame":
        return is_within(part, 0, MOST_FRAME)
    if told == "offset":
        return is_within(part, 0, MOST_AREA)
    return is_within(part, 0, MOST_PORT if told == "port" else MOST_FAIL)


def is_at_home(cell, stores, functions, uses):
    """Whether the store of a right cell is among these names, and its callee among so many functions and uses."""
    if cell[0] == "store":
        return cell[2] in stores
    if cell[0] == "call" or cell[0] == "last":
        return cell[1][1] < (functions if cell[1][0] == "own" else uses)
    return True


def is_store_name(value):
    """Whether any value may be the name of a store in a cell: the words of texts may, too."""
    if not isinstance(value, str) or not 1 <= len(value) <= MOST_SIGNS or value[0] not in LETTERS:
        return False
    return all([sign in LETTERS or sign in DIGITS for sign in value])


def registers_read(cell):
    """The registers that a right cell reads, in the order of its tuple."""
    return [cell[at + 1] for at, told in enumerate(CELL_FORMS[cell[0]]) if told == "of"]


def register_written(cell):
    """The register that a right cell writes, None if there is none."""
    return cell[1] if CELL_FORMS[cell[0]][:1] == ("to",) else None


def read_registers(cell):
    """The ascending tuple of the registers that a cell reads."""
    _need_cell(cell)
    return tuple(sorted(set(registers_read(cell))))


def written_register(cell):
    """The register that a cell writes, or None."""
    _need_cell(cell)
    return register_written(cell)


def _need_cell(cell):
    if not is_cell(cell, MOST_SIZE, MOST_REGISTERS, MOST_CELLS):
        raise BadCell("no cell")
