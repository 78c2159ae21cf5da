"""Compiles units, each one by itself."""

from labelclocks.clashes import need_registers
from labelclocks.emitting import emitted
from labelclocks.passes import chosen
from labelclocks.sourceroads import book_of


def compiled(unit, words=(), registers=8):
    """The object of a unit: its rows behind the passes of a list of words, placed for so many registers."""
    rows, reading = chosen(unit, words)
    need_registers(registers)
    functions = []
    for code in rows[5]:
        cells, frame = emitted(code, registers).placing()
        functions.append(code[:3] + (frame, cells))
    _, name, size, uses, stores, _ = rows
    return "object", name, size, registers, uses, stores, tuple(functions), reading, book_of(unit)
