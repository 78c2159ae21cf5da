"""[66]: objects, and whether two have the same face."""

import unittest

from labelclocks.errors import BadObject
from labelclocks.frames import placed
from labelclocks.objects import is_object, same_face
from labelclocks.passes import chosen
from labelclocks.readtexts import program_of
from labelclocks.sourceroads import road_book
from tests.checks import ODD_VALUES
from tests.heart import made_by_dice
from tests.makers import dice_of, make_program
from tests.test_lowering import WHOLE

MARK = ("mark", (0, 0, ()))
READING = (((0, 1, ()),), (), ())
ROADS = (
    (((), ("call", ("use", 0), 1), ()), ((0,), ("give",), ())), (((), ("call", ("own", 0), 1), ()), ((), ("give",), ())))
FIRST = ("main", (), None, 4, (
    ("room", 4), MARK, ("store", 0, "s"), ("call", ("use", 0), 4), ("mark", (0, 1, ())), ("show", 0, 1, (0, 0)), ("return",)))
SECOND = ("f", (("worth", "number"), ("place", ("row", 2, "truth"))), "truth", 0, (
    ("room", 0), ("mark", (1, 0, ())), ("call", ("own", 0), 0), ("mark", (1, 1, ())), ("last", ("own", 1))))
USES = (("v", "g", (("worth", "truth"),), None),)


def object_with(name="u", size=10, registers=3, uses=USES, stores=(("s", 3),), functions=(FIRST, SECOND), reading=READING, roads=ROADS):
    return ("object", name, size, registers, uses, stores, functions, reading, roads)


def object_of(unit, words, registers):
    """What the unit becomes behind some passes."""
    rows, reading = chosen(unit, words)
    return made_of(unit, rows, reading, registers)


def made_of(unit, rows, reading, registers):
    functions = tuple(
        code[:3] + (frame, cells) for code, (cells, frame) in zip(rows[5], placed(rows, registers)))
    return ("object", rows[1], rows[2], registers, rows[3], rows[4], functions, reading, road_book(unit))


class ObjectsTest(unittest.TestCase):

    def is_object(self, told, **parts):
        self.assertIs(is_object(object_with(**parts)), told, parts)

    def first(self, told, *cells, frame=4, **parts):
        self.is_object(told, functions=(("main", (), None, frame, cells), SECOND), **parts)

    def test_objects(self):
        self.is_object(True)
        self.is_object(True, reading=((), (), ()), stores=(("s", 400), ("t", 1)), size=10000, registers=8)
        self.is_object(True, functions=(FIRST,), roads=ROADS[:1])

    def test_what_placing_makes(self):
        for seed in range(25):
            dice = dice_of(seed)
            for unit in make_program(dice, nodes=60):
                rows, reading, _ = made_by_dice(dice, unit, 5)
                made = made_of(unit, rows, reading, dice.randint(3, 8))
                self.assertTrue(is_object(made))

    def test_heads(self):
        for name in ("if", "U", "", None, 1, "abcdefghi", "v"):
            self.is_object(False, name=name)
        for size in (1, 10001, None, True, "9"):
            self.is_object(False, size=size)
        for registers in (2, 9, None, True):
            self.is_object(False, registers=registers)
        for uses in ((), USES * 2, list(USES), (USES[0][:3],), (("u",) + USES[0][1:],), None):
            self.is_object(False, uses=uses)
        for stores in ((), (("s", 0),), (("s", 401),), (("s", 3), ("s", 3)), [("s", 3)], (("s",),), (("t", 3),), None):
            self.is_object(False, stores=stores)
        for reading in (((), ()), None, (((0, 1, ()),) * 2, (), ()), ((), (), [])):
            self.is_object(False, reading=reading)

    def test_roads(self):
        for roads in (ROADS[:1], ROADS + ROADS[:1], (), list(ROADS), None, ROADS[0]):
            self.is_object(False, roads=roads)
        # callees are functions or uses of the object
        for callee, told in ((("use", 0), True), (("use", 1), False), (("own", 1), True), (("own", 2), False)):
            roads = ((((), ("call", callee, 1), ()), ((0,), ("give",), ())), ROADS[1])
            self.is_object(told, roads=roads)

    def test_functions(self):
        for functions in ((), [FIRST, SECOND], (FIRST, FIRST), (FIRST, None), (FIRST, SECOND[:4]), (FIRST, SECOND + (0,)), (FIRST, list(SECOND)),
                          (SECOND, FIRST), None, (FIRST, ("main",) + SECOND[1:])):
            self.is_object(False, functions=functions)
        for at, values in ((0, ("if", None, "", 1)), (1, (None, [], (("worth", ("row", 2, "truth")),), (("worth", "number"),) * 5, (("by", "number"),))),
                           (2, ("none", ("row", 2, "truth"), 0)), (3, (-1, 4001, None, True, 1)), (4, (None, (), SECOND[4][:1], list(SECOND[4])))):
            for value in values:
                self.is_object(False, functions=(FIRST, SECOND[:at] + (value,) + SECOND[at + 1:]))

    def test_cells(self):
        ahead = (("room", 4), MARK)
        self.first(True, *ahead)
        self.first(True, *ahead, *[("return",)] * 7998)
        self.first(False, *ahead, *[("return",)] * 7999)
        self.first(False, ("room", 4))
        self.first(False, MARK, ("room", 4))
        self.first(False, ("room", 3), MARK)
        self.first(True, ("room", 4000), MARK, frame=4000)
        self.first(False, ("room", 4), ("mark", (0, 1, ())))
        self.first(False, ("room", 4), ("mark", (0, 0, (("at", 0, 1),))))
        self.first(False, ("room", 4), ("mark", (2, 0, ())))
        for cell, told in (
                (("set", 0, 10), False), (("set", 0, 9), True), (("move", 3, 0), False), (("move", 2, 0), True), (("jump", 3), False), (("jump", 2), True),
                (("store", 0, "t"), False), (("store", 0, "s"), True), (("call", ("own", 2), 4), False), (("call", ("own", 1), 4), True),
                (("call", ("use", 1), 4), False), (("call", ("use", 0), 4), True), (("call", ("own", 1), 3), False), (("last", ("own", 2)), False),
                (("last", ("use", 1)), False), (("last", ("use", 0)), True), (("halt",), False), (("point", 0, 0), False), (None, False)):
            self.first(told, *ahead, cell)

    def test_marks(self):
        ahead = (("room", 4), MARK)
        self.first(False, *ahead, MARK)
        self.first(True, *ahead, ("mark", (0, 1, ())))
        self.first(False, *ahead, ("mark", (0, 1, ())), ("mark", (0, 1, ())))
        # also not in two functions
        self.first(False, *ahead, ("mark", (1, 1, ())))
        self.first(True, *ahead, ("mark", (1, 1, (("at", 0, 1),))))

    def test_one_thing_otherwise(self):
        right = object_with()
        for value in ODD_VALUES + (list(right), right[:8], right + ((),), ("objects",) + right[1:], (None,) + right[1:], (right,)):
            self.assertIs(is_object(value), False)
        for at in range(1, 9):
            for value in (None, True, "x y", -1, {}, [], ((),)):
                self.assertIs(is_object(right[:at] + (value,) + right[at + 1:]), False, (at, value))


class FaceTest(unittest.TestCase):

    def test_faces(self):
        unit = program_of(WHOLE)[0]
        one = object_of(unit, [], 8)
        other = object_of(unit, [("fold",), ("lay", (0, 7, ())), ("thread",)], 3)
        self.assertNotEqual(one, other)
        self.assertIs(same_face(one, other), True)
        self.assertIs(same_face(one=one, other=one), True)

    def test_other_faces(self):
        right = object_with()
        self.assertIs(same_face(right, object_with(registers=8, stores=(("s", 5), ("t", 1)), reading=((), (), ()))), True)
        for parts in ({"name": "w"}, {"size": 11}, {"uses": USES + (("w", "g", (), None),)}, {"uses": (USES[0][:3] + ("truth",),)},
                      {"functions": (FIRST, ("g",) + SECOND[1:])}, {"functions": (FIRST, SECOND[:2] + (None,) + SECOND[3:])},
                      {"functions": (FIRST, SECOND[:1] + ((),) + SECOND[2:])}, {"functions": (FIRST,), "roads": ROADS[:1]}):
            other = object_with(**parts)
            self.assertTrue(is_object(other), parts)
            self.assertIs(same_face(right, other), False, parts)
            self.assertIs(same_face(other, right), False, parts)
        # cells and frames do not count
        cells = (("room", 7), ("mark", (1, 0, ())), ("return",))
        self.assertIs(same_face(right, object_with(functions=(FIRST, SECOND[:3] + (7, cells)))), True)

    def test_errors_in_order(self):
        for value in ODD_VALUES:
            self.assertRaises(BadObject, same_face, value, None)
            self.assertRaises(BadObject, same_face, value, object_with())
            self.assertRaises(BadObject, same_face, object_with(), value)
