"""[11], [12], [13]: the writers and the spots."""

import unittest

from labelclocks.errors import BadFunction, BadKind, BadPath, BadProgram, BadUnit
from labelclocks.nodes import nodes_of
from labelclocks.texts import kind_text, label_spots, program_text, spot_of, unit_text
from labelclocks.units import is_unit, labels_of
from tests.checks import ODD_VALUES
from tests.makers import dice_of, make_deep_unit, make_program

N = ("number", 7)
X = ("name", "x")
REC = ("record", (("a", "number"), ("b", "truth")))
ITEM = ("item", ("name", "s"), ("read", X))
FIELD = ("field", ITEM, "a")
WAYS = (("worth", "number"), ("place", REC))
HEADS = """unit u size 10
use v.f() number
use w.g(worth number, place record(a number, b truth))
store s row 3 record(a number, b truth)
store t truth
function main()
function f(worth p number, place q record(a number, b truth)) truth
function g() number
"""


def unit_with(body=(), second=()):
    params = (("p", "worth", "number"), ("q", "place", REC))
    return (
        "u", 10, (("v", "f", (), "number"), ("w", "g", WAYS, None)), (("s", ("row", 3, REC)), ("t", "truth")), (
            ("main", (), None, (("x", "number"), ("y", ("row", 2, "truth"))), body), ("f", params, "truth", (), second),
            ("g", (), "number", (), ())))


def lines_of(*body):
    """The lines of statements in the text of a unit, and whether all around them is as it has to be."""
    text = unit_text(unit_with(tuple(body)))
    ahead = HEADS + "body main\n  local x number\n  local y row 2 truth\n"
    behind = "\nbody f\nbody g"
    assert text.startswith(ahead) and text.endswith(behind), text
    return text[len(ahead):-len(behind)].split("\n")


class WritersTest(unittest.TestCase):

    def test_kinds(self):
        self.assertEqual(kind_text("number"), "number")
        self.assertEqual(kind_text("truth"), "truth")
        self.assertEqual(kind_text(("row", 64, "truth")), "row 64 truth")
        self.assertEqual(kind_text(("record", (("a", "number"),))), "record(a number)")
        inner = ("record", (("a", ("row", 2, "truth")), ("b2", ("record", (("c", "number"),)))))
        self.assertEqual(kind_text(("row", 1, inner)), "row 1 record(a row 2 truth, b2 record(c number))")
        self.assertEqual(kind_text(kind="truth"), "truth")

    def test_bad_kinds(self):
        for value in ODD_VALUES + (["row", 1, "number"], ("row", 0, "number")):
            if value != "number":
                self.assertRaises(BadKind, kind_text, value)

    def test_heads(self):
        self.assertEqual(unit_text(("u", 2, (), (), (("f", (), None, (), ()),))), "unit u size 2\nfunction f()\nbody f")
        text = unit_text(unit_with())
        told = "body main\n  local x number\n  local y row 2 truth\nbody f\nbody g"
        self.assertEqual(text, HEADS + told)

    def test_programs(self):
        first = ("u", 2, (), (), (("main", (), None, (), ()),))
        other = ("v", 2, (), (), (("f", (), "truth", (), (("fail", 1),)),))
        text = "unit u size 2\nfunction main()\nbody main"
        self.assertEqual(program_text((first,)), text)
        self.assertEqual(
            program_text((first, other)), text + "\nunit v size 2\nfunction f() truth\nbody f\n  fail 1")

    def test_simple_statements(self):
        self.assertEqual(lines_of(("put", X, N)), ["  x = 7"])
        self.assertEqual(lines_of(("show", 5, ("read", X))), ["  show 5 x"])
        self.assertEqual(lines_of(("ask", FIELD)), ["  ask s[x].a"])
        self.assertEqual(lines_of(("fail", 9)), ["  fail 9"])
        self.assertEqual(lines_of(("give", None)), ["  give"])
        text = unit_text(unit_with((), (("give", ("truth", "no")), ("give", ("read", ("name", "t"))))))
        self.assertIn("\nbody f\n  give no\n  give t\nbody g", text)

    def test_calls(self):
        self.assertEqual(lines_of(("call", None, ("own", 0), ())), ["  call main()"])
        self.assertEqual(lines_of(("call", FIELD, ("own", 2), ())), ["  s[x].a = call g()"])
        self.assertEqual(lines_of(("call", X, ("use", 0), ())), ["  x = call v.f()"])
        args = (("read", FIELD), ITEM)
        self.assertEqual(lines_of(("call", ("name", "t"), ("own", 1), args)), ["  t = call f(s[x].a, s[x])"])
        self.assertEqual(lines_of(("call", None, ("use", 1), args)), ["  call w.g(s[x].a, s[x])"])

    def test_bodies_in_statements(self):
        test = ("truth", "yes")
        fail = ("fail", 1)
        self.assertEqual(lines_of(("if", test, (), ())), ["  if yes"])
        self.assertEqual(lines_of(("if", test, (fail,), ())), ["  if yes", "    fail 1"])
        self.assertEqual(lines_of(("if", test, (), (fail,))), ["  if yes", "  else", "    fail 1"])
        self.assertEqual(
            lines_of(("if", test, (fail, fail), (fail,)), fail),
            ["  if yes", "    fail 1", "    fail 1", "  else", "    fail 1", "  fail 1"])
        self.assertEqual(lines_of(("while", test, ())), ["  while yes"])
        deep = ("while", ("not", test), (("break",), ("again",), ("if", test, (), (("while", test, (fail,)),))))
        self.assertEqual(lines_of(deep, fail), [
            "  while (not yes)", "    break", "    again", "    if yes", "    else", "      while yes", "        fail 1",
            "  fail 1"])

    def test_expressions(self):
        signs = {"plus": "+", "minus": "-", "times": "*", "over": "over", "rest": "rest"}
        for word, sign in signs.items():
            self.assertEqual(lines_of(("show", 0, (word, N, ("number", 0)))), [f"  show 0 (7 {sign} 0)"])
        for word, sign in {"less": "<", "same": "="}.items():
            self.assertEqual(lines_of(("while", (word, N, ("read", X)), ())), [f"  while (7 {sign} x)"])
        for word in ("and", "or"):
            told = (word, ("not", ("truth", "no")), (word, ("truth", "yes"), ("read", ("name", "t"))))
            self.assertEqual(lines_of(("while", told, ())), [f"  while ((not no) {word} (yes {word} t))"])
        inner = ("item", ("name", "y"), ("times", ("plus", N, N), ("read", FIELD)))
        self.assertEqual(lines_of(("put", inner, ("truth", "yes"))), ["  y[((7 + 7) * s[x].a)] = yes"])

    def test_bad_units_and_programs(self):
        for value in ODD_VALUES + (list(unit_with()), unit_with((("put", X, X),))):
            self.assertRaises(BadUnit, unit_text, value)
            self.assertRaises(BadProgram, program_text, value)
        self.assertRaises(BadProgram, program_text, unit_with())
        self.assertRaises(BadProgram, program_text, (unit_with(),))
        fails = tuple(("fail", 1) for _ in range(151))
        self.assertRaises(BadUnit, unit_text, unit_with(fails))

    def test_by_name(self):
        first = ("u", 2, (), (), (("main", (), None, (), ()),))
        self.assertEqual(unit_text(unit=first), program_text(program=(first,)))


class SpotsTest(unittest.TestCase):

    def spots(self, *body):
        """A dict from paths to columns, of nodes of one statement in line 12."""
        unit = unit_with(tuple(body))
        found = {}
        for path, _ in nodes_of(unit[4][0][4]):
            line, column = spot_of(unit, 0, path)
            found[path] = (line - 11, column)
        return found

    def test_each_kind_of_node(self):
        self.assertEqual(self.spots(("put", X, N)), {(0,): (1, 3), (0, 1): (1, 3), (0, 2): (1, 7)})
        self.assertEqual(
            self.spots(("put", FIELD, ("plus", N, ("read", FIELD)))), {
                (0,): (1, 3), (0, 1): (1, 3), (0, 1, 1): (1, 3), (0, 1, 1, 1): (1, 3), (0, 1, 1, 2): (1, 5),
                (0, 1, 1, 2, 1): (1, 5), (0, 2): (1, 12), (0, 2, 1): (1, 13), (0, 2, 2): (1, 17), (0, 2, 2, 1): (1, 17),
                (0, 2, 2, 1, 1): (1, 17), (0, 2, 2, 1, 1, 1): (1, 17), (0, 2, 2, 1, 1, 2): (1, 19),
                (0, 2, 2, 1, 1, 2, 1): (1, 19)})
        self.assertEqual(self.spots(("call", X, ("own", 2), ())), {(0,): (1, 3), (0, 1): (1, 3)})
        self.assertEqual(
            self.spots(("call", None, ("own", 1), (N, ITEM))), {
                (0,): (1, 3), (0, 3, 0): (1, 10), (0, 3, 1): (1, 13), (0, 3, 1, 1): (1, 13), (0, 3, 1, 2): (1, 15),
                (0, 3, 1, 2, 1): (1, 15)})
        self.assertEqual(self.spots(("show", 3, N)), {(0,): (1, 3), (0, 2): (1, 10)})
        self.assertEqual(self.spots(("ask", X)), {(0,): (1, 3), (0, 1): (1, 7)})
        self.assertEqual(self.spots(("fail", 3), ("give", None)), {(0,): (1, 3), (1,): (2, 3)})
        yes = ("truth", "yes")
        self.assertEqual(
            self.spots(("if", ("not", yes), (("while", yes, (("break",), ("again",))),), (("fail", 1),))), {
                (0,): (1, 3), (0, 1): (1, 6), (0, 1, 1): (1, 11), (0, 2, 0): (2, 5), (0, 2, 0, 1): (2, 11),
                (0, 2, 0, 2, 0): (3, 7), (0, 2, 0, 2, 1): (4, 7), (0, 3, 0): (6, 5)})

    def test_other_functions(self):
        unit = unit_with((("fail", 1),), (("give", ("read", ("name", "t"))),))
        self.assertEqual(spot_of(unit, 1, (0, 1, 1)), (14, 8))
        self.assertEqual(spot_of(unit=unit, f=1, path=(0,)), (14, 3))

    def test_no_paths(self):
        unit = unit_with((("put", X, ("plus", N, N)), ("call", None, ("own", 0), ())))
        for path in (
                None, (), [0], (2,), (-1,), (0, 0), (0, 3), (0, 1, 1), (0, 2, 3), (1, 1), (1, 2), (1, 3), (1, 3, 0),
                (True,), (False, 2), (0, None), ("0",), ([0],), 0, "a", {0: 1}, (0,) * 1000):
            self.assertRaises(BadPath, spot_of, unit, 0, path)

    def test_errors_in_their_order(self):
        self.assertRaises(BadUnit, spot_of, None, None, None)
        self.assertRaises(BadFunction, spot_of, unit_with(), 3, None)
        self.assertRaises(BadUnit, label_spots, None, None)
        self.assertRaises(BadFunction, label_spots, unit_with(), True)

    def test_labels(self):
        yes = ("truth", "yes")
        call = ("call", FIELD, ("own", 2), ())
        body = (("if", yes, (("while", yes, (call,)),), (("call", None, ("own", 0), ()),)), ("while", yes, ()))
        unit = unit_with(body)
        self.assertEqual(
            label_spots(unit, 0),
            [(9, 1), (12, 3), (12, 3), (13, 5), (13, 5), (14, 7), (16, 5), (17, 3), (17, 3)])
        self.assertEqual(label_spots(unit=unit, f=1), [(18, 1)])

    def test_spots_of_made_units(self):
        ends = {"number": 1, "truth": 1, "name": 1}
        for seed in range(30):
            for unit in make_program(dice_of(seed), 100) + (make_deep_unit(dice_of(seed), 60),):
                if not is_unit(unit):
                    continue
                lines = unit_text(unit).split("\n")
                for f, function in enumerate(unit[4]):
                    for path, node in nodes_of(function[4]):
                        line, column = spot_of(unit, f, path)
                        rest = lines[line - 1][column - 1:]
                        if node[0] in ends:
                            self.assertTrue(rest.startswith(str(node[1])))
                        elif node[0] not in ("put", "call", "read", "field", "item"):
                            self.assertTrue(rest.startswith(("(", node[0])))
                    self.assertEqual(len(label_spots(unit, f)), len(labels_of(unit, f)))
                    self.assertEqual(lines[label_spots(unit, f)[0][0] - 1], f"body {function[0]}")
