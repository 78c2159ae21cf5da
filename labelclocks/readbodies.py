"""Reads the bodies of functions."""

from labelclocks.bodies import MOST_FAIL, MOST_NODES_DEEP, MOST_PORT
from labelclocks.heads import MOST_LOCALS
from labelclocks.lines import END_OF_LINE
from labelclocks.readkinds import read_kind
from labelclocks.readnodes import EITHER, read_expression, read_place
from labelclocks.reach import CallHead, Reach

INDENT = 2
ANY_RESULT = (None, "number", "truth")


def callables_of(heads):
    """What the bodies of a unit can call."""
    found = []
    for at, (name, params, result) in enumerate(heads.functions):
        found.append(CallHead(None, name, ("own", at), tuple([param[1:] for param in params]), result))
    for at, (unit, function, ways, result) in enumerate(heads.uses):
        found.append(CallHead(unit, function, ("use", at), ways, result))
    return found


def read_function(cursor, heads, size, f):
    """A function whole, behind the line that begins its body."""
    name, params, result = heads.functions[f]
    names = {param: kind for param, _, kind in params}
    for store, kind in heads.stores:
        names[store] = kind
    told = _read_locals(cursor, names)
    for local, kind in told:
        names[local] = kind
    reader = BodyReader(cursor, Reach(size, names, callables_of(heads), result))
    return name, params, result, told, reader.read_body(1, False, False)


def _read_locals(cursor, names):
    """The locals of a body, unlike the names in reach."""
    told = []
    while cursor.begins(INDENT) and cursor.tells("local") and len(told) < MOST_LOCALS:
        cursor.take(["local"])
        name = cursor.take_name([], list(names) + [local for local, _ in told], True)
        told.append((name, read_kind(cursor)))
        cursor.take([END_OF_LINE])
    return tuple(told)


class BodyReader:
    """Reads the statements of a body; the depth of a statement is how many blanks stand ahead of it, halved."""

    def __init__(self, cursor, reach):
        self.cursor = cursor
        self.in_reach = reach

    def read_body(self, depth, looped, is_owed):
        """The statements of one depth; one at least if it is owed."""
        statements = []
        # what begins with fewer or with wrong blanks is judged further out
        while self.cursor.begins(INDENT * depth) or is_owed and not statements:
            statements.append(self.read_statement(depth, looped))
        return tuple(statements)

    def words_right(self, depth, looped):
        """With what a statement can begin; the first word is right everywhere."""
        height = MOST_NODES_DEEP - depth
        rights = ["fail"]
        if height > 0:
            rights.extend(["if", "while", "show"])
        if looped:
            rights.extend(["break", "again"])
        if height > 0 or self.in_reach.result is None:
            rights.append("give")
        if self.in_reach.names_with(["number"], height):
            rights.append("ask")
        if self.in_reach.calls_at(depth, ANY_RESULT):
            rights.append("call")
        return rights + self.in_reach.names_with(EITHER, height)

    def read_statement(self, depth, looped):
        """A statement with all its lines."""
        word = self.cursor.take_first(INDENT * depth, self.words_right(depth, looped))
        if word == "if":
            return self.read_if(depth, looped)
        if word == "while":
            test = self.read_test(depth)
            return "while", test, self.read_body(depth + 1, True, False)
        statement = self.read_simple(word, depth)
        self.cursor.take([END_OF_LINE])
        return statement

    def read_test(self, depth):
        """A test up to the end of its line."""
        test, _ = read_expression(self.cursor, self.in_reach, ["truth"], MOST_NODES_DEEP - depth)
        self.cursor.take([END_OF_LINE])
        return test

    def read_if(self, depth, looped):
        """An if behind its word."""
        test = self.read_test(depth)
        body = self.read_body(depth + 1, looped, False)
        other = ()
        if self.cursor.begins(INDENT * depth) and self.cursor.tells("else"):
            self.cursor.take(["else"])
            self.cursor.take([END_OF_LINE])
            other = self.read_body(depth + 1, looped, True)
        return "if", test, body, other

    def read_simple(self, word, depth):
        """A statement of one line behind its first word, up to the end of the line."""
        height = MOST_NODES_DEEP - depth
        if word == "break" or word == "again":
            return (word,)
        if word == "fail":
            return word, self.cursor.take_whole(0, MOST_FAIL)
        if word == "show":
            port = self.cursor.take_whole(0, MOST_PORT)
            return word, port, read_expression(self.cursor, self.in_reach, ["number"], height)[0]
        if word == "give":
            if self.in_reach.result is None:
                return word, None
            return word, read_expression(self.cursor, self.in_reach, [self.in_reach.result], height)[0]
        if word == "ask":
            return word, self.read_named_place(["number"], height)
        if word == "call":
            return self.read_call(None, depth, ANY_RESULT)
        place, kind = read_place(self.cursor, self.in_reach, word, EITHER, height)
        self.cursor.take(["="])
        if self.cursor.tells("call") and self.in_reach.calls_at(depth, [kind]):
            self.cursor.take(["call"])
            return self.read_call(place, depth, [kind])
        return "put", place, read_expression(self.cursor, self.in_reach, [kind], height)[0]

    def read_named_place(self, wanted, height):
        """A place with its name."""
        name = self.cursor.take(self.in_reach.names_with(wanted, height))
        return read_place(self.cursor, self.in_reach, name, wanted, height)[0]

    def read_call(self, target, depth, results):
        """A call behind its word."""
        calls = self.in_reach.calls_at(depth, results)
        name = self.cursor.take([found.function if found.unit is None else found.unit for found in calls])
        owns = [found for found in calls if found.unit is None and found.function == name]
        uses = [found for found in calls if found.unit == name]
        sign = self.cursor.take((["("] if owns else []) + (["."] if uses else []))
        called = owns[0] if sign == "(" else self.read_used(uses)
        passed = []
        for way, kind in called.ways_taken:
            if passed:
                self.cursor.take([","])
            passed.append(self.read_arg(way, kind, MOST_NODES_DEEP - depth))
        self.cursor.take([")"])
        return "call", target, called.callee, tuple(passed)

    def read_used(self, uses):
        """The one of the uses whose function is named, up to the bracket behind it."""
        function = self.cursor.take([found.function for found in uses])
        self.cursor.take(["("])
        return [found for found in uses if found.function == function][0]

    def read_arg(self, way, kind, height):
        """An arg for a param of this way and kind."""
        if way == "place":
            return self.read_named_place([kind], height)
        return read_expression(self.cursor, self.in_reach, [kind], height)[0]
