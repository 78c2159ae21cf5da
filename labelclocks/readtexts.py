"""Reads texts of kinds, units and programs, and completes beginnings of them."""

from labelclocks.bodies import MOST_NODES
from labelclocks.cursor import Cursor
from labelclocks.errors import TooLarge
from labelclocks.lines import END_OF_LINE, tokens_of
from labelclocks.nodes import node_count
from labelclocks.readkinds import PLAIN, read_kind
from labelclocks.readunits import read_program_text, read_unit_text
from labelclocks.writing import text_of_program


def kind_of(text):
    """The kind of a text."""
    cursor = Cursor(tokens_of(text), False)
    if not cursor.begins(0):
        # a blank ahead is wrong, and so is a text without tokens
        cursor.take_first(0, PLAIN)
    kind = read_kind(cursor)
    cursor.take([END_OF_LINE])
    cursor.take_end()
    return kind


def unit_of(text):
    """The unit of a text."""
    unit = read_unit_text(text, False)
    _need_small(unit)
    return unit


def program_of(text):
    """The program of a text."""
    program = read_program_text(text, False)
    for unit in program:
        _need_small(unit)
    return program


def completed_unit(text):
    """A text of a unit, maybe one with too many nodes, that begins with the right tokens of text."""
    return text_of_program([read_unit_text(text, True)])


def completed(text):
    """A text of a program, maybe one with too many nodes, that begins with the right tokens of text."""
    return text_of_program(read_program_text(text, True))


def _need_small(unit):
    for function in unit[4]:
        if node_count(function[4]) > MOST_NODES:
            raise TooLarge("a body with too many nodes")
