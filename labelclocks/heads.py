"""What stands ahead of the bodies of a unit: its uses, its stores, and the heads of its functions."""

from labelclocks.kinds import is_kind, is_name, is_plain
from labelclocks.values import has_doubles, is_tuple_of, is_tuple_within, is_within

LEAST_SIZE = 2
MOST_SIZE = 10000
MOST_USES = 6
MOST_STORES = 6
MOST_FUNCTIONS = 6
MOST_UNITS = 6
MOST_WAYS = 4
MOST_LOCALS = 6


def is_size(value):
    """Whether value is the size of a unit."""
    return is_within(value, LEAST_SIZE, MOST_SIZE)


def is_result(value):
    """Whether value is the result of a function or use."""
    return value is None or is_plain(value)


def is_way(way, kind):
    """Whether something can be passed in this way with this kind."""
    if not isinstance(way, str):
        return False
    return way == "worth" and is_plain(kind) or way == "place" and is_kind(kind)


def are_ways(value):
    """Whether value is a tuple of pairs (way, kind)."""
    if not is_tuple_within(value, 0, MOST_WAYS):
        return False
    return all([is_tuple_of(pair, 2) and is_way(pair[0], pair[1]) for pair in value])


def are_uses(value, own):
    """Whether value are the uses of the unit with the name own."""
    if not is_tuple_within(value, 0, MOST_USES) or not all([_is_use(use, own) for use in value]):
        return False
    return not has_doubles([use[:2] for use in value])


def _is_use(value, own):
    if not is_tuple_of(value, 4) or not is_name(value[0]) or value[0] == own or not is_name(value[1]):
        return False
    return are_ways(value[2]) and is_result(value[3])


def are_named_kinds(value, most):
    """Whether value is a tuple of at most so many pairs (name, kind), such as stores or locals are."""
    if not is_tuple_within(value, 0, most):
        return False
    return all([is_tuple_of(pair, 2) and is_name(pair[0]) and is_kind(pair[1]) for pair in value])


def are_params(value):
    """Whether value is a tuple of triples (name, way, kind)."""
    if not is_tuple_within(value, 0, MOST_WAYS):
        return False
    return all([is_tuple_of(param, 3) and is_name(param[0]) and is_way(param[1], param[2]) for param in value])


def ways_of(params):
    """The ways and kinds of params, without their names."""
    return tuple([(way, kind) for _, way, kind in params])


def are_heads(functions, stores):
    """Whether functions is a tuple of functions all of which is right but for the bodies."""
    if not is_tuple_within(functions, 1, MOST_FUNCTIONS):
        return False
    if not all([_is_head(function, stores) for function in functions]):
        return False
    return not has_doubles([function[0] for function in functions])


def _is_head(value, stores):
    if not is_tuple_of(value, 5) or not is_name(value[0]) or not are_params(value[1]) or not is_result(value[2]):
        return False
    if not are_named_kinds(value[3], MOST_LOCALS):
        return False
    return not has_doubles([named[0] for named in value[1] + value[3] + stores])


def names_in_reach(unit, f):
    """The dict from each name that the body of a function can name to its kind: params, locals, stores."""
    function = unit[4][f]
    kinds = {name: kind for name, _, kind in function[1]}
    for name, kind in function[3] + unit[3]:
        kinds[name] = kind
    return kinds


def head_of(unit, callee):
    """The pair (ways, result) of what a callee of the unit's own bodies is."""
    if callee[0] == "own":
        function = unit[4][callee[1]]
        return ways_of(function[1]), function[2]
    return unit[2][callee[1]][2:]
