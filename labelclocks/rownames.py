"""Where the code of a function holds its params and locals."""

from labelclocks.heads import head_of
from labelclocks.kinds import is_plain
from labelclocks.nodes import nodes_of
from labelclocks.units import need_function


def names_held(unit, f):
    """The dict from the names of params and locals to ("temp", t) or ("slot", i)."""
    need_function(unit, f)
    held = holders(unit, f)
    return {name: held[name] for name in sorted(held)}


def holders(unit, f):
    """As names_held, of a right unit, in the order of params and locals.

    A plain worth param without slot has its number as its temp, so that nothing need be copied; temps of locals come
    behind those of the params.
    """
    _, params, _, told, body = unit[4][f]
    shared = _names_shared(unit, body)
    held = {}
    slots = 0
    for at, (name, way, _) in enumerate(params):
        if way == "worth" and name in shared:
            held[name] = ("slot", slots)
            slots += 1
        else:
            held[name] = ("temp", at)
    temps = len(params)
    for name, kind in told:
        if is_plain(kind) and name not in shared:
            held[name] = ("temp", temps)
            temps += 1
        else:
            held[name] = ("slot", slots)
            slots += 1
    return held


def _names_shared(unit, body):
    """The names that stand by themselves as an arg for a place."""
    found = []
    for _, node in nodes_of(body):
        if node[0] == "call":
            ways = head_of(unit, node[2])[0]
            for (way, _), arg in zip(ways, node[3]):
                if way == "place" and arg[0] == "name":
                    found.append(arg[1])
    return found
