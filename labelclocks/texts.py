"""The texts of kinds, units and programs, and where their nodes and labels stand in them."""

from labelclocks.errors import BadKind, BadPath, BadProgram
from labelclocks.kinds import is_kind
from labelclocks.units import is_program, labels_of, need_function, need_unit
from labelclocks.values import is_whole
from labelclocks.writing import text_of_kind, text_of_program, written


def kind_text(kind):
    """The text of a kind."""
    if not is_kind(kind):
        raise BadKind("no kind")
    return text_of_kind(kind)


def unit_text(unit):
    """The text of a unit."""
    need_unit(unit)
    return "\n".join(written(unit).lines)


def program_text(program):
    """The text of a program."""
    if not is_program(program):
        raise BadProgram("no program")
    return text_of_program(program)


def spot_of(unit, f, path):
    """The pair (line, column) of a node of a function's body in the unit's text."""
    need_function(unit, f)
    if not isinstance(path, tuple) or not all([is_whole(step) for step in path]):
        raise BadPath("a path is a tuple of wholes")
    spots = written(unit).spots
    if (f, path) not in spots:
        raise BadPath("no node has this path")
    return spots[(f, path)]


def label_spots(unit, f):
    """The spots of the labels of a function, in their order."""
    labels = labels_of(unit, f)
    pen = written(unit)
    # an arm's and a round's path are the node's and one index more
    nodes = [path[:-1] if word in ("yes", "no", "round") else path for word, path in labels[1:]]
    return [pen.doors[f]] + [pen.spots[(f, path)] for path in nodes]
