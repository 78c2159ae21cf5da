"""Writes kinds, heads and bodies that are known to be right, and keeps the spots of what it writes."""

from labelclocks.bodies import PLACES
from labelclocks.kinds import is_plain

SIGNS = {
    "plus": "+", "minus": "-", "times": "*", "over": "over", "rest": "rest", "less": "<", "same": "=", "and": "and",
    "or": "or",
}
INDENT = "  "


def text_of_kind(kind):
    """The text of a kind."""
    if is_plain(kind):
        return kind
    if kind[0] == "row":
        return f"row {kind[1]} {text_of_kind(kind[2])}"
    fields = ", ".join([f"{name} {text_of_kind(inner)}" for name, inner in kind[1]])
    return f"record({fields})"


def written(unit):
    """A pen that has written a unit; its bodies may be of any length."""
    pen = Pen(unit)
    pen.write_heads()
    for f in range(len(unit[4])):
        pen.write_function(f)
    return pen


def text_of_program(program):
    """The text of a program; its bodies may be of any length."""
    return "\n".join(["\n".join(written(unit).lines) for unit in program])


class Pen:
    """The lines of a unit's text, and the spots of its bodies' words and nodes."""

    def __init__(self, unit):
        self.unit = unit
        self.lines = []
        self.line = ""
        self.f = 0
        # the spots of the words body, by numbers of functions
        self.doors = []
        # the spots of nodes, by pairs (number of the function, path)
        self.spots = {}

    def here(self):
        """The spot of what is written now."""
        return len(self.lines) + 1, len(self.line) + 1

    def mark(self, path):
        """Keeps the spot of a node of the function that is written."""
        self.spots[(self.f, path)] = self.here()

    def write(self, text):
        """Writes on in the same line."""
        self.line = self.line + text

    def end_line(self):
        """Begins a new line."""
        self.lines.append(self.line)
        self.line = ""

    def write_line(self, text):
        """Writes a line of its own."""
        self.write(text)
        self.end_line()

    def write_heads(self):
        """Writes what stands ahead of the bodies."""
        name, size, uses, stores, functions = self.unit
        self.write_line(f"unit {name} size {size}")
        for owner, function, ways, result in uses:
            told = [f"{way} {text_of_kind(kind)}" for way, kind in ways]
            self.write_line(f"use {owner}.{function}" + _list_and_result(told, result))
        for store, kind in stores:
            self.write_line(f"store {store} {text_of_kind(kind)}")
        for function in functions:
            told = [f"{way} {param} {text_of_kind(kind)}" for param, way, kind in function[1]]
            self.write_line(f"function {function[0]}" + _list_and_result(told, function[2]))

    def write_function(self, f):
        """Writes the body of a function, and its locals."""
        self.f = f
        function = self.unit[4][f]
        self.doors.append(self.here())
        self.write_line(f"body {function[0]}")
        for name, kind in function[3]:
            self.write_line(f"{INDENT}local {name} {text_of_kind(kind)}")
        self.write_body((), function[4], INDENT)

    def write_body(self, path, body, blanks):
        """Writes statements; path is what stands ahead of their indexes."""
        for at, statement in enumerate(body):
            self.write(blanks)
            self.mark(path + (at,))
            self.write_statement(path + (at,), statement, blanks)

    def write_statement(self, path, statement, blanks):
        """Writes a statement behind its blanks, with the bodies in it."""
        word = statement[0]
        if word == "put":
            self.write_node(path + (1,), statement[1])
            self.write(" = ")
            self.write_node(path + (2,), statement[2])
        elif word == "call":
            self.write_call(path, statement)
        else:
            self.write(word)
            self.write_operands(path, statement)
        self.end_line()
        if word == "if" or word == "while":
            self.write_body(path + (2,), statement[2], blanks + INDENT)
        if word == "if" and statement[3]:
            self.write_line(f"{blanks}else")
            self.write_body(path + (3,), statement[3], blanks + INDENT)

    def write_operands(self, path, statement):
        """Writes what stands in the line behind the word of a statement."""
        word = statement[0]
        if word == "show" or word == "fail":
            self.write(f" {statement[1]}")
        node_at = 2 if word == "show" else 1
        if word in ("show", "if", "while", "ask", "give") and statement[node_at] is not None:
            self.write(" ")
            self.write_node(path + (node_at,), statement[node_at])

    def write_call(self, path, statement):
        """Writes a call, with its target."""
        _, target, callee, passed = statement
        if target is not None:
            self.write_node(path + (1,), target)
            self.write(" = ")
        if callee[0] == "own":
            self.write(f"call {self.unit[4][callee[1]][0]}(")
        else:
            use = self.unit[2][callee[1]]
            self.write(f"call {use[0]}.{use[1]}(")
        for at, arg in enumerate(passed):
            self.write(", " if at > 0 else "")
            self.write_node(path + (3, at), arg)
        self.write(")")

    def write_node(self, path, node):
        """Writes an expression or place."""
        self.mark(path)
        if node[0] in PLACES:
            self.write_place(path, node)
        elif node[0] == "read":
            self.write_node(path + (1,), node[1])
        elif node[0] == "not":
            self.write("(not ")
            self.write_node(path + (1,), node[1])
            self.write(")")
        elif node[0] in SIGNS:
            self.write("(")
            self.write_node(path + (1,), node[1])
            self.write(f" {SIGNS[node[0]]} ")
            self.write_node(path + (2,), node[2])
            self.write(")")
        else:
            self.write(str(node[1]))

    def write_place(self, path, place):
        """Writes a place; all places along it begin where its name does."""
        if place[0] == "name":
            self.write(place[1])
            return
        self.write_node(path + (1,), place[1])
        if place[0] == "field":
            self.write(f".{place[2]}")
            return
        self.write("[")
        self.write_node(path + (2,), place[2])
        self.write("]")


def _list_and_result(told, result):
    """What stands behind the name of a use or function."""
    behind = "" if result is None else f" {result}"
    inside = ", ".join(told)
    return f"({inside}){behind}"
