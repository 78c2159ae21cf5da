"""[16]: names, kinds, trails; [31]: code labels and stations; [3], [4] on them."""

import unittest

from labelclocks.codelabels import is_code_label, is_station
from labelclocks.errors import BadKind, BadTrail
from labelclocks.kinds import inner_kind, is_kind, is_name, is_plain, offset_of, trails, words_of
from tests.checks import ODD_VALUES, nested
from tests.makers import dice_of, make_kind

RESERVED = """again and ask body break call else fail function give if local no not number or over place record rest row
show size store truth unit use while worth yes""".split()
PAIR = ("record", (("a", "number"), ("b", "truth")))
ROW = ("row", 3, PAIR)


class NamesTest(unittest.TestCase):

    def test_names(self):
        for value in ("a", "z", "a1", "z0z0z0z0", "abcdefgh", "ifs", "n", "main"):
            self.assertTrue(is_name(value), value)

    def test_no_names(self):
        for value in ("", "1", "1a", "A", "aB", "a_b", "_", "abcdefghi", "a ", " a", "a\n", "\u00e9", "a\u0663", "a."):
            self.assertFalse(is_name(value), value)
        for value in (None, 1, True, ["a"], ("a",), {"a": 1}, b"a", object()):
            self.assertFalse(is_name(value))

    def test_words_of_the_texts_are_no_names(self):
        self.assertEqual(len(RESERVED), 30)
        for word in RESERVED:
            self.assertFalse(is_name(word), word)


class KindsTest(unittest.TestCase):

    def test_plain(self):
        self.assertTrue(is_plain("number") and is_plain("truth"))
        for value in ODD_VALUES + ("row", ("row", 1, "number"), ["number"]):
            if value != "number":
                self.assertIs(is_plain(value), False)

    def test_answers_are_true_or_false(self):
        for value in ODD_VALUES:
            self.assertIn(is_kind(value), (True, False))
            self.assertIs(type(is_kind(value)), bool)
            self.assertIs(type(is_name(value)), bool)

    def test_rows(self):
        for items in (1, 2, 64):
            self.assertTrue(is_kind(("row", items, "number")))
        for items in (0, 65, -1, True, "3", None, 10 ** 99):
            self.assertFalse(is_kind(("row", items, "number")))
        self.assertFalse(is_kind(["row", 1, "number"]))
        self.assertFalse(is_kind(("row", 1)))
        self.assertFalse(is_kind(("row", 1, "number", 1)))
        self.assertFalse(is_kind(("row", 1, "word")))

    def test_records(self):
        fields = tuple((f"a{at}", "number") for at in range(7))
        for many in range(1, 7):
            self.assertTrue(is_kind(("record", fields[:many])))
        self.assertFalse(is_kind(("record", ())))
        self.assertFalse(is_kind(("record", fields)))
        self.assertFalse(is_kind(("record", (("a", "number"), ("b", "truth"), ("a", "truth")))))
        self.assertFalse(is_kind(("record", [("a", "number")])))
        self.assertFalse(is_kind(("record", (["a", "number"],))))
        self.assertFalse(is_kind(("record", (("if", "number"),))))
        self.assertFalse(is_kind(("record", (("a", "number", 1),))))
        self.assertFalse(is_kind(("record", (("a", None),))))
        self.assertFalse(is_kind(("record", (("a", "number"),), 1)))

    def test_depth(self):
        kind = "number"
        for deep in range(2, 8):
            kind = ("row", 1, kind)
            self.assertEqual(is_kind(kind), deep <= 4)
        kind = "truth"
        for deep in range(2, 8):
            kind = ("record", (("x", "number"), ("a", kind)))
            self.assertEqual(is_kind(kind), deep <= 4)
        self.assertFalse(is_kind(nested("number", 40)))

    def test_words(self):
        self.assertTrue(is_kind(("row", 40, ("row", 10, "number"))))
        self.assertFalse(is_kind(("row", 20, ("row", 21, "number"))))
        self.assertFalse(is_kind(("record", (("a", ("row", 40, ("row", 10, "truth"))), ("b", "truth")))))
        self.assertFalse(is_kind(("row", 64, ("row", 64, "number"))))
        self.assertEqual(words_of("truth"), 1)
        self.assertEqual(words_of(ROW), 6)
        self.assertEqual(words_of(("record", (("a", ROW), ("b", "number"), ("c", ("row", 64, "number"))))), 71)

    def test_bad_kinds(self):
        for ask in (words_of, trails):
            for value in ODD_VALUES + (["row", 1, "number"], ("row", 65, "number")):
                if value != "number":
                    self.assertRaises(BadKind, ask, value)
        for ask in (inner_kind, offset_of):
            self.assertRaises(BadKind, ask, None, ())
            self.assertRaises(BadKind, ask, None, None)
            self.assertRaises(BadTrail, ask, "number", None)


class TrailsTest(unittest.TestCase):

    def test_trails_in_order(self):
        self.assertEqual(trails("number"), [()])
        self.assertEqual(trails(ROW), [(0, "a"), (0, "b"), (1, "a"), (1, "b"), (2, "a"), (2, "b")])
        kind = ("record", (("z", "truth"), ("a", ("row", 2, "number")), ("m", PAIR)))
        self.assertEqual(trails(kind), [("z",), ("a", 0), ("a", 1), ("m", "a"), ("m", "b")])
        self.assertEqual(offset_of(kind, ("a",)), 1)
        self.assertEqual(offset_of(kind, ("m",)), 3)
        self.assertEqual(offset_of(kind, ("m", "b")), 4)

    def test_inner_kinds(self):
        self.assertEqual(inner_kind(ROW, ()), ROW)
        self.assertEqual(inner_kind(ROW, (2,)), PAIR)
        self.assertEqual(inner_kind(ROW, (2, "b")), "truth")
        self.assertEqual(offset_of(ROW, (2,)), 4)
        self.assertEqual(offset_of(ROW, ()), 0)

    def test_no_trails(self):
        wrong = (
            None, [], [0], "a", 0, (3,), (-1,), (True,), (None,), ("a",), (0, "c"), (0, 0), (0, "a", 0), (0, "a", "a"),
            ((0,),), ([0],), (0, ["a"]), (10 ** 99,), ({},))
        for trail in wrong:
            self.assertRaises(BadTrail, inner_kind, ROW, trail)
            self.assertRaises(BadTrail, offset_of, ROW, trail)
        self.assertRaises(BadTrail, inner_kind, "number", (0,))
        self.assertRaises(BadTrail, inner_kind, PAIR, (0,))
        self.assertRaises(BadTrail, inner_kind, PAIR, (["a"],))

    def test_the_fact(self):
        for seed in range(60):
            kind = make_kind(dice_of(seed), 200)
            told = trails(kind)
            self.assertEqual(len(told), words_of(kind))
            for at, trail in enumerate(told):
                self.assertEqual(offset_of(kind, trail), at)
                self.assertTrue(is_plain(inner_kind(kind, trail)))
                for cut in range(len(trail) + 1):
                    inner = inner_kind(kind, trail[:cut])
                    self.assertEqual(offset_of(kind, trail[:cut]) + offset_of(inner, trail[cut:]), at)

    def test_what_is_returned_is_new(self):
        trails(ROW).clear()
        self.assertEqual(len(trails(ROW)), 6)

    def test_by_name(self):
        self.assertEqual(offset_of(trail=(1,), kind=ROW), 2)
        self.assertEqual(inner_kind(trail=(1,), kind=ROW), PAIR)
        self.assertEqual(words_of(kind=ROW), len(trails(kind=ROW)))
        self.assertTrue(is_name(value="a") and is_plain(value="truth") and is_kind(value=ROW))


class CodeLabelsTest(unittest.TestCase):

    def test_stations(self):
        for value in ((0, 0), (5, 999), (3, 7)):
            self.assertTrue(is_station(value))
        wrong = ((6, 0), (0, 1000), (-1, 0), (0, -1), [0, 0], (0,), (0, 0, 0), (True, 0), (0, False), ("0", 0), None)
        for value in wrong + ODD_VALUES:
            self.assertIs(is_station(value), False)

    def test_code_labels(self):
        marks = (("at", 0, 0), ("first", 5, 999), ("later", 2, 3), ("at", 5, 0))
        for way in ((), marks[:1], marks, marks + marks):
            self.assertTrue(is_code_label((0, 0, way)))
            self.assertTrue(is_code_label((5, 999, way)))
            self.assertFalse(is_code_label((6, 0, way)))
            self.assertFalse(is_code_label((0, 1000, way)))
            self.assertFalse(is_code_label((-1, 0, way)))
            self.assertFalse(is_code_label((True, 0, way)))
            self.assertFalse(is_code_label([0, 0, way]))
            self.assertFalse(is_code_label((0, 0, list(way))))
        self.assertFalse(is_code_label((0, 0, marks + marks + marks[:1])))

    def test_marks(self):
        wrong = (
            ("in", 0, 0), ("at", 6, 0), ("at", 0, 1000), ("at", -1, 0), ("at", 0, -1), ["at", 0, 0], ("at", 0),
            ("at", 0, 0, 0), (None, 0, 0), ("at", True, 0), ("at", 0, None), None, (["at"], 0, 0))
        for mark in wrong:
            self.assertIs(is_code_label((0, 0, (mark,))), False)

    def test_any_value(self):
        for value in ODD_VALUES + ((0, 0), (0, 0, (), ()), (0, 0, None)):
            self.assertIs(is_code_label(value), False)
        self.assertTrue(is_code_label(value=(0, 0, ())) and is_station(value=(0, 0)))
