"""[62], [63]: books of beats, and images."""

import unittest

from labelclocks.books import WORDS, even_book, is_book
from labelclocks.errors import BadBeats
from labelclocks.images import is_image
from tests.checks import ODD_VALUES

LABEL = (0, 1, ())
S = ("u", 0, 1)
NINE = ("plus", "minus", "times", "over", "rest", "less", "same", "and", "or")
CELLS = (
    ("mark", "u", LABEL), ("set", 2, 9), ("move", 0, 1), ("not", 0, 1), ("get", 0, 4005), ("keep", 4005, 0), ("clear", 0, 400),
    ("load", 0, 1), ("save", 0, 1), ("base", 0, 0), ("point", 0, 4), ("index", 0, 1, 2, 400, 400), ("offset", 0, 1, 400),
    ("check", 0, 64, S), ("divisor", 0, S), ("show", 5, 0, S), ("ask", 0, S), ("fail", 9, S), ("jump", 0), ("unless", 0, 37),
    ("call", 37, 4000), ("last", 0), ("return",), ("room", 4000), ("halt",), ("mark", "v", LABEL), ("mark", "u", LABEL),
    ("jump", 37), ("point", 2, 0),
) + tuple((word, 0, 1, 2) for word in NINE)


def image_with(cells=CELLS, size=10, registers=3, stores=5, room=8):
    return ("image", size, registers, stores, room, tuple(cells))


class BooksTest(unittest.TestCase):

    def test_words(self):
        self.assertEqual(list(WORDS), sorted(set(WORDS)))
        self.assertIsInstance(WORDS, tuple)
        told = {cell[0] for cell in CELLS} - {"mark", "point"} | {"store"}
        self.assertEqual(set(WORDS), told)
        self.assertEqual(len(WORDS), 33)

    def test_even_books(self):
        for beats in (1, 2, 99):
            book = even_book(beats)
            self.assertTrue(is_book(book))
            self.assertEqual(book, {**{word: beats for word in WORDS}, "taken": 0, "wait": 0})
        self.assertIsNot(even_book(beats=1), even_book(1))
        for beats in ODD_VALUES[:4] + ODD_VALUES[7:] + (0, 100, -1, 10 ** 99, 1.0):
            if beats != 1 or isinstance(beats, (bool, float)):
                self.assertRaises(BadBeats, even_book, beats)

    def test_each_bound(self):
        for key in WORDS + ("taken", "wait"):
            low = 1 if key in WORDS else 0
            for beats, told in ((low, True), (99, True), (low - 1, False), (100, False), (None, False), (True, False), ("1", False),
                                (10 ** 99, False)):
                self.assertIs(is_book({**even_book(5), key: beats}), told, (key, beats))

    def test_keys(self):
        for key in WORDS + ("taken", "wait"):
            book = even_book(5)
            beats = book.pop(key)
            self.assertFalse(is_book(book))
            for other in (key + "x", None, 1, (key,), "mark", "point", ""):
                self.assertFalse(is_book({**book, other: beats}), other)
        for other in ("mark", "point", 1, None):
            self.assertFalse(is_book({**even_book(5), other: 5}))
        for value in ODD_VALUES + (WORDS, list(even_book(1).items()), tuple(even_book(1))):
            self.assertIs(is_book(value), False)


class ImagesTest(unittest.TestCase):

    def test_images(self):
        self.assertEqual(len(CELLS), 38)
        self.assertIs(is_image(image_with()), True)
        self.assertIs(is_image(image_with([("halt",)], stores=0)), True)

    def test_each_bound(self):
        for part, values, wrong in (
                ("size", (10, 10000), (1, 10001, None, True, "2")), ("registers", (3, 8), (2, 9, None, True)),
                ("stores", (5, 20000), (-1, 20001, None, False, 4)), ("room", (8, 20000), (7, 20001, None, "8"))):
            for value in values:
                self.assertIs(is_image(image_with(**{part: value})), True, (part, value))
            for value in wrong:
                self.assertIs(is_image(image_with(**{part: value})), False, (part, value))
        for stores, told in ((-1, False), (0, True), (None, False)):
            self.assertIs(is_image(image_with([("halt",)], stores=stores)), told)
        for many, told in ((0, False), (1, True), (40000, True), (40001, False)):
            self.assertIs(is_image(image_with([("halt",)] * many)), told)

    def test_bounds_of_cells(self):
        for at, cell in enumerate(CELLS):
            for k in range(1, len(cell)):
                if isinstance(cell[k], int):
                    for value in (-1, None, True, "1", 40000):
                        self.assertFalse(is_image(image_with(CELLS[:at] + (cell[:k] + (value,) + cell[k + 1:],) + CELLS[at + 1:])))
        for cell in (("set", 2, 10), ("set", 3, 0), ("move", 0, 3), ("point", 0, 5), ("point", 3, 0), ("get", 0, 4006), ("keep", 4006, 0),
                     ("clear", 0, 401), ("clear", 0, 0), ("jump", 38), ("unless", 0, 38), ("call", 38, 0), ("last", 38), ("call", 0, 4001),
                     ("room", 4001), ("index", 0, 1, 2, 0, 0), ("index", 0, 1, 2, 401, 0), ("index", 0, 1, 2, 1, 401), ("offset", 0, 1, 401),
                     ("check", 0, 0, S), ("check", 0, 65, S), ("show", 6, 0, S), ("fail", 10, S)):
            self.assertFalse(is_image(image_with((cell,) + CELLS[1:])), cell)
        self.assertFalse(is_image(image_with([("point", 0, 0)], stores=0)))

    def test_cells_of_objects_are_none_here(self):
        for cell in (("mark", LABEL), ("store", 0, "s"), ("call", ("own", 0), 0), ("last", ("use", 0)), ("check", 0, 1, (0, 1)),
                     ("divisor", 0, (0, 1)), ("show", 0, 0, (0, 1)), ("ask", 0, (0, 1)), ("fail", 0, (0, 1))):
            self.assertFalse(is_image(image_with((cell,) + CELLS[1:])), cell)

    def test_names_labels_stations(self):
        for name in ("if", "U", "", "abcdefghi", "u_", None, 1, ("u",)):
            self.assertFalse(is_image(image_with((("mark", name, LABEL),) + CELLS[1:])))
            self.assertFalse(is_image(image_with((("fail", 0, (name, 0, 1)),) + CELLS[1:])))
        for label in ((6, 0, ()), (0, 0), None, [0, 0, ()]):
            self.assertFalse(is_image(image_with((("mark", "u", label),) + CELLS[1:])))
        for station in (("u", 6, 0), ("u", 0, 1000), ("u", 0), ["u", 0, 0], ("u", (0, 0)), None):
            self.assertFalse(is_image(image_with((("fail", 0, station),) + CELLS[1:])))

    def test_one_thing_otherwise(self):
        right = image_with()
        for value in (list(right), right[:5], right + (0,), ("images",) + right[1:], (None,) + right[1:], right[:5] + (list(CELLS),),
                      right[:5] + (None,)) + ODD_VALUES:
            self.assertIs(is_image(value), False)
        for at, cell in enumerate(CELLS):
            for value in (list(cell), cell + (0,), cell[:-1] if len(cell) > 1 else (), (cell,), None, ("x",) + cell[1:], (None,) + cell[1:]):
                self.assertFalse(is_image(image_with(CELLS[:at] + (value,) + CELLS[at + 1:])), value)
