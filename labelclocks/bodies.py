"""Judges bodies of functions: the form, the kinds and the bounds of their nodes."""

from labelclocks.heads import head_of, names_in_reach
from labelclocks.kinds import field_kind, is_plain
from labelclocks.values import is_tuple_of, is_within, is_whole

MOST_NODES = 150
MOST_NODES_DEEP = 10
MOST_PORT = 5
MOST_FAIL = 9
STATEMENTS = ("put", "call", "if", "while", "break", "again", "give", "show", "ask", "fail")
EXPRESSIONS = (
    "number", "truth", "read", "plus", "minus", "times", "over", "rest", "less", "same", "and", "or", "not",
)
PLACES = ("name", "field", "item")
# how many items the tuples of nodes have, by their words
LENGTHS = {
    "put": 3, "call": 4, "if": 4, "while": 3, "break": 1, "again": 1, "give": 2, "show": 3, "ask": 2, "fail": 2,
    "number": 2, "truth": 2, "read": 2, "plus": 3, "minus": 3, "times": 3, "over": 3, "rest": 3, "less": 3, "same": 3,
    "and": 3, "or": 3, "not": 2, "name": 2, "field": 3, "item": 3,
}
# the kinds of what the words take and make
SIGN_KINDS = {
    "plus": ("number", "number"), "minus": ("number", "number"), "times": ("number", "number"),
    "over": ("number", "number"), "rest": ("number", "number"), "less": ("number", "truth"),
    "same": ("number", "truth"), "and": ("truth", "truth"), "or": ("truth", "truth"),
}


def is_body_of(unit, f, most):
    """Whether the body of a function, all the rest of its unit being right, is one of at most so many nodes."""
    judge = BodyJudge(unit, f, most)
    return judge.is_body(unit[4][f][4], 1, False)


class BodyJudge:
    """Judges the body of one function, and counts its nodes on the way."""

    def __init__(self, unit, f, most):
        self.unit = unit
        self.kinds_named = names_in_reach(unit, f)
        self.result = unit[4][f][2]
        self.most = most
        self.nodes = 0

    def may_stand(self, node, depth, words):
        """Whether a node of one of these words may stand at this depth; it is counted."""
        self.nodes += 1
        # counted first, so that what holds itself in many places is not gone through for long
        if self.nodes > self.most or depth > MOST_NODES_DEEP:
            return False
        if not isinstance(node, tuple) or not node or not isinstance(node[0], str):
            return False
        return node[0] in words and len(node) == LENGTHS[node[0]]

    def is_body(self, body, depth, looped):
        """Whether body is one; looped tells whether it stands in a while."""
        if not isinstance(body, tuple):
            return False
        for statement in body:
            if not self.may_stand(statement, depth, STATEMENTS):
                return False
            if not self.is_statement(statement, depth + 1, looped):
                return False
        return True

    def is_statement(self, statement, deeper, looped):
        """Whether the parts of a statement, which stand at the depth deeper, are right."""
        word = statement[0]
        if word == "call":
            return self.is_call(statement, deeper)
        if word == "if":
            return (
                self.kind_of(statement[1], deeper) == "truth"
                and self.is_body(statement[2], deeper, looped)
                and self.is_body(statement[3], deeper, looped)
            )
        if word == "while":
            return self.kind_of(statement[1], deeper) == "truth" and self.is_body(statement[2], deeper, True)
        if word == "break" or word == "again":
            return looped
        return self.is_simple(statement, deeper)

    def is_simple(self, statement, deeper):
        """Whether a put, give, show, ask or fail is right."""
        word = statement[0]
        if word == "put":
            kind = self.place_kind(statement[1], deeper)
            return is_plain(kind) and self.kind_of(statement[2], deeper) == kind
        if word == "give":
            if self.result is None or statement[1] is None:
                return self.result is None and statement[1] is None
            return self.kind_of(statement[1], deeper) == self.result
        if word == "show":
            return is_within(statement[1], 0, MOST_PORT) and self.kind_of(statement[2], deeper) == "number"
        if word == "ask":
            return self.place_kind(statement[1], deeper) == "number"
        return is_within(statement[1], 0, MOST_FAIL)

    def is_call(self, statement, deeper):
        """Whether target, callee and args of a call are right."""
        if not self.is_callee(statement[2]):
            return False
        ways, result = head_of(self.unit, statement[2])
        if statement[1] is not None:
            if result is None or self.place_kind(statement[1], deeper) != result:
                return False
        passed = statement[3]
        if not is_tuple_of(passed, len(ways)):
            return False
        for at, arg in enumerate(passed):
            way, kind = ways[at]
            told = self.kind_of(arg, deeper) if way == "worth" else self.place_kind(arg, deeper)
            if told != kind:
                return False
        return True

    def is_callee(self, callee):
        """Whether callee is ("own", i) or ("use", i) of the unit."""
        if not is_tuple_of(callee, 2) or not is_whole(callee[1]) or callee[1] < 0:
            return False
        if callee[0] == "own":
            return callee[1] < len(self.unit[4])
        return callee[0] == "use" and callee[1] < len(self.unit[2])

    def place_kind(self, place, depth):
        """The kind of a place; None if it is not right."""
        if not self.may_stand(place, depth, PLACES):
            return None
        if place[0] == "name":
            return self.kinds_named.get(place[1]) if isinstance(place[1], str) else None
        kind = self.place_kind(place[1], depth + 1)
        if kind is None or is_plain(kind):
            return None
        if place[0] == "field":
            if kind[0] != "record" or not isinstance(place[2], str):
                return None
            found = field_kind(kind, place[2])
            return None if found is None else found[0]
        if kind[0] != "row" or self.kind_of(place[2], depth + 1) != "number":
            return None
        return kind[2]

    def kind_of(self, expression, depth):
        """The kind of an expression; None if it is not right."""
        if not self.may_stand(expression, depth, EXPRESSIONS):
            return None
        word = expression[0]
        if word == "number":
            return "number" if is_within(expression[1], 0, self.unit[1] - 1) else None
        if word == "truth":
            return "truth" if expression[1] in ("yes", "no") else None
        if word == "read":
            kind = self.place_kind(expression[1], depth + 1)
            return kind if is_plain(kind) else None
        if word == "not":
            return "truth" if self.kind_of(expression[1], depth + 1) == "truth" else None
        taken, made = SIGN_KINDS[word]
        if self.kind_of(expression[1], depth + 1) != taken or self.kind_of(expression[2], depth + 1) != taken:
            return None
        return made
