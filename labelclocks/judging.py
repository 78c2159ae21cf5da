"""Judges placings that anybody has made, by papers."""

from labelclocks.cells import MOST_BEHIND, MOST_CELLS, MOST_FRAME, is_at_home, is_cell
from labelclocks.clashes import need_registers
from labelclocks.colouring import first_word
from labelclocks.errors import BadPaper, BadPlacing
from labelclocks.loose import is_temp
from labelclocks.rows import need_code
from labelclocks.values import is_tuple_of, is_tuple_within, is_within
from labelclocks.walks import Walk


def is_placing(rows, f, registers, value):
    """Whether any value is a placing of a code."""
    need_code(rows, f)
    need_registers(registers)
    return _is_placing(rows, rows[5][f], registers, value)


def _is_placing(rows, code, registers, value):
    if not is_tuple_of(value, 2) or not is_within(value[1], first_word(code, len(code[3])), MOST_FRAME):
        return False
    cells = value[0]
    if not is_tuple_within(cells, 1, MOST_CELLS):
        return False
    if not all([is_cell(cell, rows[2], registers, len(cells)) for cell in cells]):
        return False
    stores = [store[0] for store in rows[4]]
    return all([is_at_home(cell, stores, len(rows[5]), len(rows[3])) for cell in cells])


def judge(rows, f, registers, placing, paper):
    """None if a paper shows that a placing does what its code does, otherwise the refusal (block, at, address)."""
    need_code(rows, f)
    need_registers(registers)
    code = rows[5][f]
    if not _is_placing(rows, code, registers, placing):
        raise BadPlacing("no placing")
    if not _is_paper(code, registers, placing, paper):
        raise BadPaper("no paper")
    for block in sorted(paper):
        refusal = Walk(code, placing, paper, block).refusal()
        if refusal is not None:
            return refusal
    return None


def _is_paper(code, registers, placing, value):
    """Whether any value is a paper for a placing of a code."""
    if not isinstance(value, dict) or not all([is_within(block, 0, len(code[4]) - 1) for block in value]):
        return False
    for block in value:
        if not is_tuple_of(value[block], 2) or not is_within(value[block][0], 0, len(placing[0]) - 1):
            return False
        held = value[block][1]
        if not isinstance(held, tuple) or not all([_is_pair(code, registers, placing[1], pair) for pair in held]):
            return False
    return 0 in value and value[0] == (0, params_held(code))


def params_held(code):
    """The pairs of the words that hold the params as a code begins, and these params."""
    return tuple([(("word", temp), temp) for temp in range(len(code[1]))])


def _is_pair(code, registers, frame, value):
    """Whether any value is a pair of a place and a temp."""
    if not is_tuple_of(value, 2) or not is_tuple_of(value[0], 2) or not is_temp(value[1]):
        return False
    kind, at = value[0]
    if kind == "register":
        return is_within(at, 0, registers - 1)
    if kind != "word" or not is_within(at, 0, frame + MOST_BEHIND):
        return False
    return not first_word(code, 0) <= at < first_word(code, len(code[3]))
