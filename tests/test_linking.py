"""[67]: images of objects, addresses of functions and stores."""

import itertools
import unittest

from labelclocks.compiling import compiled
from labelclocks.errors import (
    BadNeeded, BadObjects, BadRoom, Missing, NoMain, NoStore, TooLarge, Twice, Unlike, UnlikeSizes,
)
from labelclocks.images import is_image
from labelclocks.linking import addresses, linked, store_at
from labelclocks.machine import Machine
from tests.checks import ODD_VALUES
from tests.compile import dice_book, machine_of, objects_by_dice, shown, two
from tests.makers import dice_of, make_program

GIVE = (((), ("give",), ()),)


def cells_of(f, *more, frame=0):
    return (("room", frame), ("mark", (f, 0, ()))) + more


def thing(name="u", functions=None, uses=(), stores=(), size=10, registers=3):
    """An object; functions are pairs of a name and cells, or tuples (name, params, result, frame, cells)."""
    functions = (("main", cells_of(0, ("return",))),) if functions is None else functions
    told = tuple(one if len(one) == 5 else (one[0], (), None, 0, one[1]) for one in functions)
    return ("object", name, size, registers, uses, stores, told, ((), (), ()), (GIVE,) * len(told))


NUMBER = (("worth", "number"),)
# u: main calls v.f and its own g; h is called by nothing, d only by h
U = thing("u", (
    ("main", (), None, 4, cells_of(
        0, ("store", 0, "s"), ("call", ("use", 0), 4), ("mark", (0, 1, ())), ("check", 0, 3, (0, 2)), ("last", ("own", 1)), frame=4)),
    ("g", cells_of(1, ("unless", 1, 4), ("jump", 0), ("mark", (1, 1, ())), ("return",))),
    ("h", cells_of(2, ("last", ("own", 3)))),
    ("d", cells_of(3, ("fail", 3, (3, 0)))),
), (("v", "f", NUMBER, "truth"),), (("s", 3), ("t", 5)))
V = thing("v", (
    ("e", cells_of(0, ("return",))),
    ("f", NUMBER, "truth", 1, cells_of(
        1, ("store", 2, "s"), ("divisor", 2, (1, 0)), ("show", 5, 2, (1, 1)), ("ask", 2, (1, 2)), ("return",), frame=1))),
    stores=(("s", 7),), registers=5)
W = thing("w", (("main", cells_of(0, ("jump", 0))),), stores=(("x", 400),))


class ImageTest(unittest.TestCase):

    def test_one_object(self):
        self.assertEqual(linked([thing()], "u", 8), ("image", 10, 3, 0, 8, (
            ("call", 2, 0), ("halt",), ("room", 0), ("mark", "u", (0, 0, ())), ("return",))))

    def test_layout(self):
        image = linked([U, V], "u", 100)
        self.assertIs(is_image(image), True)
        self.assertEqual(image[:5], ("image", 10, 5, 15, 100))
        self.assertEqual(image[5][:2], (("call", 2, 0), ("halt",)))
        starts = addresses([U, V], "u", 100)
        self.assertEqual(starts, {("u", 0): 2, ("u", 1): 9, ("u", 2): 15, ("u", 3): 18, ("v", 0): 21, ("v", 1): 24})
        self.assertEqual(list(starts), sorted(starts))
        self.assertEqual(image[5][2:9], (
            ("room", 4), ("mark", "u", (0, 0, ())), ("point", 0, 0), ("call", 24, 4), ("mark", "u", (0, 1, ())),
            ("check", 0, 3, ("u", 0, 2)), ("last", 9)))
        self.assertEqual(image[5][9:15], (
            ("room", 0), ("mark", "u", (1, 0, ())), ("unless", 1, 13), ("jump", 9), ("mark", "u", (1, 1, ())), ("return",)))
        self.assertEqual(image[5][15:21], (
            ("room", 0), ("mark", "u", (2, 0, ())), ("last", 18), ("room", 0), ("mark", "u", (3, 0, ())), ("fail", 3, ("u", 3, 0))))
        self.assertEqual(image[5][24:], (
            ("room", 1), ("mark", "v", (1, 0, ())), ("point", 2, 8), ("divisor", 2, ("v", 1, 0)), ("show", 5, 2, ("v", 1, 1)),
            ("ask", 2, ("v", 1, 2)), ("return",)))

    def test_order(self):
        image = linked([V, W, U], "u", 100)
        starts = addresses([V, W, U], "u", 100)
        self.assertEqual(starts, {
            ("u", 0): 15, ("u", 1): 22, ("u", 2): 28, ("u", 3): 31, ("v", 0): 2, ("v", 1): 5, ("w", 0): 12})
        self.assertEqual(list(starts), sorted(starts))
        self.assertEqual(image[5][0], ("call", 15, 0))
        self.assertEqual(image[3], 415)
        self.assertEqual(image[5][17], ("point", 0, 407))
        # main of another object
        self.assertEqual(linked([V, W, U], "w", 100)[5][0], ("call", 12, 0))

    def test_needed(self):
        image = linked([U, V], "u", 100, True)
        self.assertIs(is_image(image), True)
        starts = addresses([U, V], "u", 100, needed=True)
        self.assertEqual(starts, {("u", 0): 2, ("u", 1): 9, ("v", 1): 15})
        self.assertEqual(len(image[5]), 22)
        self.assertEqual(image[5][5], ("call", 15, 4))
        # stores stay
        self.assertEqual(image[3], 15)
        self.assertEqual(len(linked([U, V], "u", 100, False)[5]), 31)
        self.assertEqual(addresses([W, U, V], "w", 100, True), {("w", 0): 2})

    def test_stores(self):
        for things, told in (([U, V], {("u", "s"): 0, ("u", "t"): 3, ("v", "s"): 8}), ([V, W, U], {
                ("v", "s"): 0, ("w", "x"): 7, ("u", "s"): 407, ("u", "t"): 410})):
            for (unit, x), address in told.items():
                self.assertEqual(store_at(things, unit, x), address)
        for unit, x in (("v", "t"), ("x", "s"), ("w", "s"), (None, "s"), ("u", None), ([], {}), (1, True), ("u", "")):
            with self.assertRaises(NoStore) as caught:
                store_at([U, V], unit, x)
            self.assertEqual((caught.exception.unit, caught.exception.store), (unit, x))
        for value in ODD_VALUES:
            self.assertRaises(BadObjects, store_at, value, "u", "s")

    def test_six_objects_in_each_order(self):
        many = [thing(name, stores=(("s", at + 1),), registers=3 + at) for at, name in enumerate("abcdef")]
        for order in list(itertools.permutations(many))[::37]:
            image = linked(order, "c", 100)
            self.assertEqual((image[2], image[3]), (8, 21))
            starts = addresses(order, "c", 100)
            for at, one in enumerate(order):
                self.assertEqual(starts[one[1], 0], 2 + 3 * at)
                self.assertEqual(image[5][3 + 3 * at], ("mark", one[1], (0, 0, ())))
                self.assertEqual(store_at(order, one[1], "s"), sum(other[5][0][1] for other in order[:at]))
            self.assertEqual(image[5][0], ("call", starts["c", 0], 0))
        for many in range(1, 7):
            things = [thing(name) for name in "abcdef"[:many]]
            self.assertEqual(len(linked(things, "a", 100)[5]), 2 + 3 * many)


class ErrorsTest(unittest.TestCase):

    def raises(self, error, *args, fields=()):
        for function in (linked, addresses):
            with self.assertRaises(error) as caught:
                function(*args)
            for name, value in fields:
                self.assertEqual(getattr(caught.exception, name), value)

    def test_in_order(self):
        other = thing("v", size=11, functions=(("main", cells_of(0)),))
        for value in ODD_VALUES + ([], [U, None], [U] * 7, [U[:8]], U, [[U]]):
            self.raises(BadObjects, value, None, None, None)
        for value in (7, 20001, None, True, "9", -1):
            self.raises(BadRoom, [U, U, other], None, value, None)
        for value in (None, 0, 1, "True", ()):
            self.raises(BadNeeded, [U, U, other], None, 8, value)
        self.raises(UnlikeSizes, [U, U, other], None, 8)
        self.raises(Twice, [U, V, W, V, U], None, 8, fields=[("name", "v")])
        self.raises(Twice, [U, V, U, V], None, 8, fields=[("name", "u")])
        for main in ("v", "x", "main", None, 1, (), ["u"], {}):
            self.raises(NoMain, [U, V], main, 8)
        self.raises(NoMain, [U], "v", 8)
        self.raises(NoMain, [thing("u", (("main", NUMBER, None, 0, cells_of(0)),))], "u", 8)
        self.raises(NoMain, [thing("u", (("main", (), "truth", 0, cells_of(0)),))], "u", 8)
        self.raises(Missing, [U], "u", 20000, True, fields=[("unit", "u"), ("index", 0)])

    def test_uses(self):
        use = ("v", "f", NUMBER, "truth")
        for at, value, error in (
                (0, "w", Missing), (1, "g", Missing), (2, (), Unlike), (2, (("worth", "truth"),), Unlike), (3, None, Unlike),
                (2, (("place", "number"),), Unlike), (3, "number", Unlike), (2, NUMBER * 2, Unlike), (1, "e", Unlike)):
            one = thing("u", uses=(("v", "e", (), None), use[:at] + (value,) + use[at + 1:])) if (at, value) != (1, "e") else None
            one = one or thing("u", uses=(("v", "f", NUMBER, "truth"), ("v", "e", NUMBER, "truth")))
            self.raises(error, [one, V], "u", 8, fields=[("unit", "u"), ("index", 1)])
        # object after object, use after use
        first = thing("u", uses=(use, ("v", "e", (), "truth"), ("x", "f", (), None)))
        last = thing("x", uses=(("y", "f", (), None),))
        self.raises(Unlike, [first, V, last], "u", 8, fields=[("unit", "u"), ("index", 1)])
        self.raises(Missing, [last, V, first], "u", 8, fields=[("unit", "x"), ("index", 0)])
        self.assertTrue(linked([thing("u", uses=(use,)), V], "u", 8))

    def test_too_many_cells(self):
        def large(name, functions, cells):
            told = [("main" if f == 0 else f"f{f}", cells_of(f, *[("return",)] * (cells - 2))) for f in range(functions)]
            return thing(name, tuple(told))
        whole = large("u", 4, 8000)
        for cells, is_large in ((7997, False), (7998, False), (7999, True)):
            things = [whole, large("v", 1, cells)]
            if is_large:
                self.raises(TooLarge, things, "u", 8)
                self.assertEqual(len(linked(things, "u", 8, True)[5]), 8002)
            else:
                self.assertEqual(len(linked(things, "u", 8)[5]), 32002 + cells)
        # it is the last error
        self.raises(Missing, [whole, large("v", 2, 8000)[:4] + ((("x", "f", (), None),),) + large("v", 2, 8000)[5:]], "u", 8)


class HeartTest(unittest.TestCase):

    def ask_orders(self, program, objects, dice, orders):
        inputs = [dice.randrange(10000) for _ in range(dice.randrange(9))]
        book = dice_book(dice)
        main = program[0][0]
        first = machine_of(objects, main, inputs, book, 3000)
        told = (shown(first), first.stations(), first.steps(), first.beats(), first.state(), first.left())
        for order in orders:
            for needed in (True, False):
                other = machine_of([objects[at] for at in order], main, inputs, book, 3000, 20000, needed)
                self.assertEqual((
                    shown(other), other.stations(), other.steps(), other.beats(), other.state(), other.left()), told)

    def test_programs_by_dice(self):
        for seed in range(25):
            dice = dice_of(seed)
            program = make_program(dice, nodes=60, most_units=4)
            objects = objects_by_dice(dice, program, 4)
            orders = [dice.sample(range(len(program)), len(program)) for _ in range(3)]
            self.ask_orders(program, objects, dice, orders)

    def test_calls_across_units(self):
        program = two()
        for seed in range(8):
            dice = dice_of(seed)
            self.ask_orders(program, objects_by_dice(dice, program), dice, [(0, 1), (1, 0)])

    def test_stores_stand_where_they_are_told(self):
        program = two()
        objects = [compiled(unit) for unit in program]
        for things in (objects, objects[::-1]):
            image = linked(things, "u", 2000)
            machine = Machine(image, [4], dice_book(dice_of(1)))
            machine.go(20000)
            first = store_at(things, "u", "s")
            self.assertEqual([machine.word(first + at) for at in range(3)], [8, 0, 2])
            for address in addresses(things, "u", 2000).values():
                self.assertEqual((image[5][address][0], image[5][address + 1][0]), ("room", "mark"))


if __name__ == "__main__":
    unittest.main()
