"""Reads what stands ahead of the bodies of a unit."""

from labelclocks.heads import MOST_FUNCTIONS, MOST_STORES, MOST_USES, MOST_WAYS, ways_of
from labelclocks.lines import END_OF_LINE
from labelclocks.readkinds import PLAIN, read_kind, read_told_kind

WAYS = ("worth", "place")


class Heads:
    """The heads of a unit as far as they are read."""

    def __init__(self, name, needed):
        self.name = name
        # the heads of functions that units ahead have used, and main's
        self.needed = needed
        self.uses = []
        self.used = {}
        self.stores = []
        # without locals and bodies
        self.functions = []

    def function_names(self):
        """The names of the functions read."""
        return [function[0] for function in self.functions]

    def store_names(self):
        """The names of the stores read."""
        return [name for name, _ in self.stores]

    def missing(self):
        """The names of functions that are needed and not read."""
        names = self.function_names()
        return [name for name in self.needed if name not in names]


def read_heads(cursor, plan, name):
    """The heads of a unit, up to the word of its first body, which is taken."""
    heads = Heads(name, plan.needed_heads(name))
    word = cursor.take_first(0, _words_right(heads, plan))
    while word != "body":
        if word == "use":
            _read_use(cursor, plan, heads)
        elif word == "store":
            store = cursor.take_name([], heads.store_names(), True)
            heads.stores.append((store, read_kind(cursor)))
            cursor.take([END_OF_LINE])
        else:
            _read_function(cursor, plan, heads)
        word = cursor.take_first(0, _words_right(heads, plan))
    return heads


def _words_right(heads, plan):
    """The words with which a line of the heads can begin; the first one leads to their end."""
    rights = []
    if heads.functions and not heads.missing():
        rights.append("body")
    if len(heads.functions) < MOST_FUNCTIONS:
        rights.append("function")
    if not heads.functions and len(heads.stores) < MOST_STORES:
        rights.append("store")
    if not heads.functions and not heads.stores and len(heads.uses) < MOST_USES:
        if plan.has_room() or plan.units_left(heads.name, heads.used):
            rights.append("use")
    return rights


def _read_use(cursor, plan, heads):
    wished = plan.units_left(heads.name, heads.used)
    barred = [heads.name] + plan.others(heads.name)
    unit = cursor.take_name(wished, barred, plan.has_room())
    cursor.take(["."])
    left = plan.functions_left(unit, heads.used)
    barred = [function for owner, function in heads.used if owner == unit]
    function = cursor.take_name(left, barred, plan.is_function_free(unit))
    told = plan.head_told(unit, function)
    params = _read_params(cursor, told, None)
    head = (ways_of(params), _read_result(cursor, told))
    plan.keep_use(unit, function, head)
    heads.used[(unit, function)] = True
    heads.uses.append((unit, function, head[0], head[1]))


def _read_function(cursor, plan, heads):
    missing = heads.missing()
    is_free = MOST_FUNCTIONS - len(heads.functions) > len(missing)
    name = cursor.take_name(missing, heads.function_names(), is_free)
    told = heads.needed.get(name)
    params = _read_params(cursor, told, heads.store_names())
    result = _read_result(cursor, told)
    plan.known[heads.name][name] = (ways_of(params), result)
    heads.functions.append((name, params, result))


def _read_params(cursor, told, barred):
    """The list in brackets, as a tuple of triples (name, way, kind); names are None where barred is.

    told is the head that the list has to keep, or None; barred are names that no param may have.
    """
    params = []
    cursor.take(["("])
    word = cursor.take(_words_first(told))
    while word != ")":
        if word == ",":
            word = cursor.take(WAYS if told is None else [told[0][len(params)][0]])
        name = None
        if barred is not None:
            name = cursor.take_name([], barred + [param[0] for param in params], True)
        if told is not None:
            kind = read_told_kind(cursor, told[0][len(params)][1])
        else:
            kind = cursor.take(PLAIN) if word == "worth" else read_kind(cursor)
        params.append((name, word, kind))
        word = cursor.take(_words_further(told, len(params)))
    return tuple(params)


def _words_first(told):
    """What can stand behind the bracket that opens a list."""
    if told is None:
        return (")",) + WAYS
    return (told[0][0][0],) if told[0] else (")",)


def _words_further(told, many):
    """What can stand in a list behind so many items."""
    if told is None:
        return (")", ",") if many < MOST_WAYS else (")",)
    return (",",) if many < len(told[0]) else (")",)


def _read_result(cursor, told):
    """The result behind a list, and the end of the line."""
    if told is not None:
        cursor.take([END_OF_LINE if told[1] is None else told[1]])
    else:
        word = cursor.take((END_OF_LINE,) + PLAIN)
        told = (None, None if word == END_OF_LINE else word)
    if told[1] is not None:
        cursor.take([END_OF_LINE])
    return told[1]
