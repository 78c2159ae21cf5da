"""[60], [61]: cells, and the registers that they read and write."""

import unittest

from labelclocks.cells import is_cell, read_registers, written_register
from labelclocks.errors import BadCell
from tests.checks import ODD_VALUES

LABEL = (0, 1, (("at", 0, 1),))
S = (5, 999)
NINE = ("plus", "minus", "times", "over", "rest", "less", "same", "and", "or")
# cells, the registers that they read, and the one that they write
CELLS = [
    (("mark", LABEL), (), None), (("set", 7, 9), (), 7), (("move", 1, 2), (2,), 1), (("not", 0, 3), (3,), 0),
    (("get", 4, 4005), (), 4), (("keep", 0, 5), (5,), None), (("clear", 7, 400), (), None), (("load", 1, 6), (6,), 1),
    (("save", 4, 2), (2, 4), None), (("base", 3, 11), (), 3), (("store", 6, "s1"), (), 6),
    (("index", 1, 5, 4, 400, 400), (4, 5), 1), (("offset", 2, 7, 0), (7,), 2), (("check", 4, 64, S), (4,), None),
    (("divisor", 3, S), (3,), None), (("show", 5, 2, S), (2,), None), (("ask", 1, S), (), 1), (("fail", 9, S), (), None),
    (("jump", 0), (), None), (("unless", 6, 19), (6,), None), (("call", ("own", 5), 4000), (), None),
    (("call", ("use", 0), 0), (), None), (("last", ("use", 5)), (), None), (("return",), (), None),
    (("room", 4000), (), None),
] + [((word, 1, 7, 2), (2, 7), 1) for word in NINE]
# for each word an index of its tuple, and the bounds of what may stand there
BOUNDS = {
    "set": {1: (0, 7), 2: (0, 9)}, "move": {1: (0, 7), 2: (0, 7)}, "not": {1: (0, 7), 2: (0, 7)},
    "get": {1: (0, 7), 2: (0, 4005)}, "keep": {1: (0, 4005), 2: (0, 7)}, "clear": {1: (0, 4005), 2: (1, 400)},
    "load": {1: (0, 7), 2: (0, 7)}, "save": {1: (0, 7), 2: (0, 7)}, "base": {1: (0, 7), 2: (0, 4005)}, "store": {1: (0, 7)},
    "index": {1: (0, 7), 2: (0, 7), 3: (0, 7), 4: (1, 400), 5: (0, 400)}, "offset": {1: (0, 7), 2: (0, 7), 3: (0, 400)},
    "check": {1: (0, 7), 2: (1, 64)}, "divisor": {1: (0, 7)}, "show": {1: (0, 5), 2: (0, 7)}, "ask": {1: (0, 7)},
    "fail": {1: (0, 9)}, "jump": {1: (0, 19)}, "unless": {1: (0, 7), 2: (0, 19)}, "call": {2: (0, 4000)}, "room": {1: (0, 4000)},
}
for nine in NINE:
    BOUNDS[nine] = {1: (0, 7), 2: (0, 7), 3: (0, 7)}


def cell_with(cell, at, value):
    return cell[:at] + (value,) + cell[at + 1:]


class CellsTest(unittest.TestCase):

    def is_cell(self, value, size=10, registers=8, cells=20):
        told = is_cell(value, size, registers, cells)
        self.assertIsInstance(told, bool)
        return told

    def test_each_cell(self):
        for cell, _, _ in CELLS:
            self.assertTrue(self.is_cell(cell), cell)

    def test_each_bound(self):
        for cell, _, _ in CELLS:
            for at, (low, high) in BOUNDS.get(cell[0], {}).items():
                for value, told in ((low, True), (high, True), (low - 1, False), (high + 1, False), (-1, False),
                                    (True, False), (None, False), ("1", False), (10 ** 99, False)):
                    self.assertIs(self.is_cell(cell_with(cell, at, value)), told, (cell, at, value))

    def test_bounds_that_hang_on_the_code(self):
        for registers in range(3, 9):
            self.assertTrue(self.is_cell(("move", registers - 1, registers - 1), registers=registers))
            self.assertFalse(self.is_cell(("move", registers, 0), registers=registers))
            self.assertFalse(self.is_cell(("index", 0, 0, registers, 1, 0), registers=registers))
        for size in (2, 3, 10000):
            self.assertTrue(self.is_cell(("set", 0, size - 1), size=size))
            self.assertFalse(self.is_cell(("set", 0, size), size=size))
        for cells in (1, 2, 8000):
            for cell in (("jump",), ("unless", 0)):
                self.assertTrue(self.is_cell(cell + (cells - 1,), cells=cells))
                self.assertFalse(self.is_cell(cell + (cells,), cells=cells))

    def test_cells_that_are_wrong_in_one_place(self):
        for cell, _, _ in CELLS:
            for value in (cell + (0,), cell[:-1], list(cell), (cell,), ("x" + cell[0],) + cell[1:], (None,) + cell[1:],
                          cell[1:], ("halt",) + cell[1:]):
                if value != ("return",):
                    self.assertFalse(self.is_cell(value), value)
            for at in range(1, len(cell)):
                for value in (None, True, [], (), {}, -1, "A", 0.5):
                    self.assertFalse(self.is_cell(cell_with(cell, at, value)), (cell, at, value))

    def test_labels_stations_stores_callees(self):
        for label in ((6, 0, ()), (0, 1000, ()), (0, 0, (("at", 0, 1),) * 9), (0, 0), [0, 0, ()], (0, 0, [])):
            self.assertFalse(self.is_cell(("mark", label)))
        for station in ((6, 0), (0, 1000), (-1, 0), (0,), [0, 0], (0, 0, 0), ("u", 0, 0)):
            for cell in (("check", 0, 1), ("divisor", 0), ("show", 0, 0), ("ask", 0), ("fail", 0)):
                self.assertFalse(self.is_cell(cell + (station,)), station)
                self.assertTrue(self.is_cell(cell + ((0, 0),)))
        for name in ("a", "z9", "abcdefgh", "if", "store", "a1234567"):
            self.assertTrue(self.is_cell(("store", 0, name)))
        for name in ("", "A", "aB", "9", "9a", "abcdefghi", "a_", "a b", "a\n", None, 1, ("a",), "\u00e4"):
            self.assertFalse(self.is_cell(("store", 0, name)))
        for callee in (("own", 6), ("use", 6), ("own", -1), ("own", True), ("own",), ["own", 0], ("other", 0), (0, "own"), "own"):
            self.assertFalse(self.is_cell(("call", callee, 0)))
            self.assertFalse(self.is_cell(("last", callee)))

    def test_any_value(self):
        for value in ODD_VALUES + (("halt",), ("point", 0, 0), ("const", 0, 0), ("copy", 0, 0), ("test", 0, 0, 0), ("give", 0)):
            self.assertFalse(self.is_cell(value))

    def test_registers(self):
        for cell, read, written in CELLS:
            self.assertEqual(read_registers(cell), read, cell)
            self.assertEqual(written_register(cell), written, cell)
        for word in NINE + ("save",):
            cell = (word, 3, 3, 3) if word != "save" else (word, 3, 3)
            self.assertEqual(read_registers(cell), (3,))
        self.assertEqual(read_registers(cell=("index", 3, 2, 2, 1, 0)), (2,))

    def test_bad_cells(self):
        for function in (read_registers, written_register):
            function(("set", 7, 9999))
            function(("jump", 7999))
            for value in ODD_VALUES + (("set", 8, 0), ("set", 0, 10000), ("jump", 8000), ("halt",), ["return"], ("keep", 4006, 0)):
                self.assertRaises(BadCell, function, value)
