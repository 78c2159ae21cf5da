"""Units and programs, and the labels and stations of their functions."""

from labelclocks.bodies import MOST_NODES, is_body_of
from labelclocks.errors import BadFunction, BadUnit
from labelclocks.heads import MOST_STORES, MOST_UNITS, are_heads, are_named_kinds, are_uses, head_of, is_size
from labelclocks.kinds import is_name
from labelclocks.nodes import nodes_of
from labelclocks.values import has_doubles, is_tuple_of, is_tuple_within, is_whole

STATION_WORDS = {
    "show": "show", "ask": "ask", "fail": "fail", "item": "bounds", "over": "zero", "rest": "zero",
}


def is_unit(value):
    """Whether any value is a unit."""
    return is_unit_within(value, MOST_NODES)


def is_unit_within(value, most):
    """Whether any value is a unit, but for its bodies, which may have so many nodes each."""
    if not is_tuple_of(value, 5) or not is_name(value[0]) or not is_size(value[1]):
        return False
    if not are_uses(value[2], value[0]) or not are_named_kinds(value[3], MOST_STORES):
        return False
    if not are_heads(value[4], value[3]):
        return False
    for f in range(len(value[4])):
        if not is_body_of(value, f, most):
            return False
    return True


def is_program(value):
    """Whether any value is a program."""
    return is_program_within(value, MOST_NODES)


def is_program_within(value, most):
    """Whether any value is a program, but for its bodies, which may have so many nodes each."""
    if not is_tuple_within(value, 1, MOST_UNITS) or not all([is_unit_within(unit, most) for unit in value]):
        return False
    if has_doubles([unit[0] for unit in value]) or len(set([unit[1] for unit in value])) > 1:
        return False
    mains = [function for function in value[0][4] if function[0] == "main"]
    if not mains or mains[0][1] != () or mains[0][2] is not None:
        return False
    return all([_is_met(use, value) for unit in value for use in unit[2]])


def _is_met(use, program):
    """Whether a unit of the program has the function that a use tells."""
    for unit in program:
        for f in range(len(unit[4])):
            if (unit[0], unit[4][f][0]) == use[:2]:
                return head_of(unit, ("own", f)) == use[2:]
    return False


def need_unit(unit):
    """Raises BadUnit unless unit is one."""
    if not is_unit(unit):
        raise BadUnit("no unit")


def need_function(unit, f):
    """Raises BadUnit, BadFunction unless f is the index of a function of a unit."""
    need_unit(unit)
    if not is_whole(f) or not 0 <= f < len(unit[4]):
        raise BadFunction("no index of a function of the unit")


def labels_of(unit, f):
    """The labels of a function: a list of pairs (word, path)."""
    need_function(unit, f)
    labels = [("door", ())]
    for path, node in nodes_of(unit[4][f][4]):
        if node[0] == "if":
            labels.append(("yes", path + (2,)))
            labels.append(("no", path + (3,)))
        elif node[0] == "while":
            labels.append(("round", path + (2,)))
            labels.append(("out", path))
        elif node[0] == "call":
            labels.append(("back", path))
    return labels


def stations_of(unit, f):
    """The stations of a function: a list of pairs (word, path)."""
    need_function(unit, f)
    found = nodes_of(unit[4][f][4])
    return [(STATION_WORDS[node[0]], path) for path, node in found if node[0] in STATION_WORDS]
