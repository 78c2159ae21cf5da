"""Reads units and programs, whose bodies may be of any length."""

from labelclocks.cursor import Cursor
from labelclocks.heads import LEAST_SIZE, MOST_SIZE
from labelclocks.lines import END_OF_LINE, tokens_of
from labelclocks.plans import Plan
from labelclocks.readbodies import read_function
from labelclocks.readheads import read_heads


def read_unit_text(text, completes):
    """The unit of a text, or, if it completes, one whose text begins with the right tokens of this one."""
    cursor = Cursor(tokens_of(text), completes)
    cursor.take_first(0, ["unit"])
    unit = _read_unit(cursor, Plan(False))
    cursor.take_end()
    return unit


def read_program_text(text, completes):
    """The program of a text, or, if it completes, one whose text begins with the right tokens of this one."""
    cursor = Cursor(tokens_of(text), completes)
    plan = Plan(True)
    cursor.take_first(0, ["unit"])
    units = [_read_unit(cursor, plan)]
    while _is_unit_next(cursor, plan):
        cursor.take_first(0, ["unit"])
        units.append(_read_unit(cursor, plan))
    cursor.take_end()
    return tuple(units)


def _is_unit_next(cursor, plan):
    """Whether a unit is owed, so that the text cannot end, or another one can come and does."""
    if plan.owed:
        return True
    return plan.has_room() and cursor.begins(0) and cursor.tells("unit")


def _read_unit(cursor, plan):
    """A unit behind its first word."""
    name = cursor.take_name(list(plan.owed), list(plan.known), plan.has_room())
    cursor.take(["size"])
    if plan.size is None:
        plan.size = cursor.take_whole(LEAST_SIZE, MOST_SIZE)
    else:
        cursor.take_whole(plan.size, plan.size)
    cursor.take([END_OF_LINE])
    heads = read_heads(cursor, plan, name)
    functions = []
    for f, name_of_function in enumerate(heads.function_names()):
        # the first body's word has ended the heads
        if f > 0:
            cursor.take_first(0, ["body"])
        cursor.take([name_of_function])
        cursor.take([END_OF_LINE])
        functions.append(read_function(cursor, heads, plan.size, f))
    return name, plan.size, tuple(heads.uses), tuple(heads.stores), tuple(functions)
