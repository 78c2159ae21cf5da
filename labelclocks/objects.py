"""Objects: what units become by themselves."""

from labelclocks.cells import LEAST_REGISTERS, MOST_CELLS, MOST_FRAME, MOST_REGISTERS, is_at_home, is_cell
from labelclocks.errors import BadObject
from labelclocks.heads import MOST_FUNCTIONS, are_uses, are_ways, is_result, is_size
from labelclocks.kinds import is_name
from labelclocks.loose import are_store_words
from labelclocks.reading import is_reading
from labelclocks.sourceroads import is_road_book
from labelclocks.values import has_doubles, is_tuple_of, is_tuple_within, is_within


def is_object(value):
    """Whether any value is an object."""
    if not is_tuple_of(value, 9) or value[0] != "object" or not is_name(value[1]) or not is_size(value[2]):
        return False
    _, name, _, registers, uses, stores, functions, reading, roads = value
    if not is_within(registers, LEAST_REGISTERS, MOST_REGISTERS) or not are_uses(uses, name):
        return False
    if not are_store_words(stores) or not _are_functions(value, functions):
        return False
    marks = [cell[1] for function in functions for cell in function[4] if cell[0] == "mark"]
    return not has_doubles(marks) and is_reading(reading) and _are_roads(value, roads)


def _are_functions(thing, functions):
    """Whether these are the functions of a value whose parts ahead of them are right."""
    if not is_tuple_within(functions, 1, MOST_FUNCTIONS) or not all([_is_head(function) for function in functions]):
        return False
    if has_doubles([function[0] for function in functions]):
        return False
    return all([_are_cells(thing, f, function) for f, function in enumerate(functions)])


def _is_head(value):
    """Whether value has the form of a function but for its cells."""
    if not is_tuple_of(value, 5) or not is_name(value[0]) or not are_ways(value[1]) or not is_result(value[2]):
        return False
    return is_within(value[3], 0, MOST_FRAME)


def _are_cells(thing, f, function):
    """Whether a function has the cells of function f of a value whose heads are right."""
    _, _, size, registers, uses, stores, functions, _, _ = thing
    frame, cells = function[3:]
    if not is_tuple_within(cells, 2, MOST_CELLS):
        return False
    if not all([is_cell(cell, size, registers, len(cells)) for cell in cells]):
        return False
    if cells[:2] != (("room", frame), ("mark", (f, 0, ()))):
        return False
    if [cell for cell in cells if cell[0] == "call" and cell[2] != frame]:
        return False
    names = [store[0] for store in stores]
    return all([is_at_home(cell, names, len(functions), len(uses)) for cell in cells])


def _are_roads(thing, roads):
    """Whether these are the roads of a value whose parts ahead of them are right."""
    if not is_road_book(roads) or len(roads) != len(thing[6]):
        return False
    callees = [road[1][1] for told in roads for road in told if road[1][0] == "call"]
    return all([callee[0] == "own" or callee[1] < len(thing[4]) for callee in callees])


def need_object(value):
    """Raises BadObject unless value is an object."""
    if not is_object(value):
        raise BadObject("no object")


def same_face(one, other):
    """Whether two objects have the same name, size, uses and heads of functions."""
    need_object(one)
    need_object(other)
    if one[1:3] != other[1:3] or one[4] != other[4]:
        return False
    return [function[:3] for function in one[6]] == [function[:3] for function in other[6]]
