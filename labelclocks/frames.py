"""Frames, the places of temps, and the cells of codes that are placed in them."""

from labelclocks.clashes import need_registers
from labelclocks.colouring import first_word, places_in
from labelclocks.emitting import emitted
from labelclocks.errors import BadSlot
from labelclocks.rows import need_code, need_rows
from labelclocks.values import is_within


def area(rows, f, i):
    """The first word of a slot."""
    need_code(rows, f)
    if not is_within(i, 0, len(rows[5][f][3]) - 1):
        raise BadSlot("no slot")
    return first_word(rows[5][f], i)


def places(rows, f, registers):
    """The dict from each held temp, ascending, to its place."""
    need_code(rows, f)
    need_registers(registers)
    return places_in(rows[5][f], registers)


def placed(rows, registers):
    """The list with for each code its placing: the pair of its cells and the number of its frame's words."""
    need_rows(rows)
    need_registers(registers)
    return [emitted(code, registers).placing() for code in rows[5]]
