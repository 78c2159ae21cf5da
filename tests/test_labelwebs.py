"""[80]: webs of the roads that labels tell, and the totals of their names."""

import unittest

from labelclocks.books import even_book
from labelclocks.compiling import compiled
from labelclocks.errors import (
    BadBooks, BadNames, BadObjects, BadRounds, BadSides, Missing, NoLabel, NoMain, NotLed, TooMany, Twice, Unlike, UnlikeSides,
    UnlikeSizes,
)
from labelclocks.labelwebs import label_web, totals
from labelclocks.prices import prices
from labelclocks.readtexts import program_of
from labelclocks.webs import is_web
from tests.checks import ODD_VALUES
from tests.compile import dice_book, objects_by_dice, two
from tests.makers import dice_of, make_program
from tests.test_led import SHOW
from tests.test_linking import NUMBER, cells_of, thing
from tests.toldroads import told_counts, web_counts

LOOPS = program_of("""
unit u size 10
function main()
function f(worth n number)
body main
  local i number
  local j number
  local x number
  ask x
  while (i < 3)
    j = 0
    while (j < 2)
      ask x
      if (x = j)
        again
      if (x < j)
        break
      j = (j + 1)
    i = (i + 1)
  call f(i)
body f
  if (n < 1)
    give
  call f((n - 1))
""")
FAILING = program_of("""
unit u size 10
function main()
function die()
body main
  local i number
  ask i
  if (i < 5)
    call die()
  show 0 i
  if (i < 2)
    fail 3
body die
  fail 1
""")


class LabelWebTest(unittest.TestCase):

    def ask(self, sides, main, rounds=None, most=13):
        """Asks the roads of the web against the told roads; tells how many there are of them."""
        web, names = label_web(sides, main, rounds)
        self.assertIs(is_web(web), True)
        self.assertEqual(list(names), sorted(set(names)))
        self.assertEqual(len(names), web[0])
        used = {label for _, edges in web[1] for edge in edges for label in edge[4]}
        self.assertEqual(used, set(range(web[0])))
        for places, edges in web[1]:
            for edge in edges:
                self.assertEqual(edge[3], 0)
                self.assertTrue(edge[1] != places - 1 or edge[4] == () and edge[2] is None)
        told = told_counts(sides, main, rounds, most)
        self.assertEqual(web_counts(web, names, most), told)
        return len(told)

    def test_the_smallest(self):
        made = compiled(program_of("unit u size 10\nfunction main()\nbody main")[0])
        web, names = label_web([[made]], "u")
        self.assertEqual((web, names), ((1, ((3, ((0, 1, None, 0, (0,)), (1, 2, None, 0, ()))),)), ((0, "u", (0, 0, ())),)))
        web, names = label_web(sides=([made], (made,)), main="u", rounds={})
        self.assertEqual(names, ((0, "u", (0, 0, ())), (1, "u", (0, 0, ()))))
        self.assertEqual(web[1][0][1][0], (0, 1, None, 0, (0, 1)))

    def test_one_side(self):
        for program in (two(), LOOPS, FAILING):
            self.assertGreater(self.ask([[compiled(unit) for unit in program]], "u"), 0)

    def test_two_sides(self):
        unit = LOOPS[0]
        one = [compiled(unit)]
        for words in ([("peel", (0, 1, ()))], [("peel", (0, 3, ()))], [("peel", (0, 1, ())), ("peel", (0, 3, (("first", 0, 1),)))],
                      [("lay", (0, 9, ()))], [("lay", (1, 3, ())), ("lay", (0, 9, ()))], [("last",)], [("lay", (0, 9, ())), ("last",)],
                      [("fold",), ("dead",), ("thread",)]):
            other = [compiled(unit, words, 4)]
            self.assertGreater(self.ask([one, other], "u", None, 12), 5)
            self.assertGreater(self.ask([other], "u", None, 12), 5)
            self.assertGreater(self.ask([other, one], "u", {("u", 0, 1): 1, ("u", 0, 3): 2}, 14), 3)

    def test_rounds(self):
        one = [compiled(LOOPS[0])]
        many = []
        for rounds in (None, {}, {("u", 0, 1): 0}, {("u", 0, 1): 1}, {("u", 0, 1): 2}, {("u", 0, 1): 30}, {("u", 0, 3): 0}, {("u", 0, 3): 1},
                       {("u", 0, 1): 1, ("u", 0, 3): 1}, {("u", 0, 1): 2, ("u", 0, 3): 2}):
            many.append(self.ask([one], "u", rounds, 14))
        self.assertEqual(many[0], many[1])
        self.assertEqual(many[0], many[5])
        self.assertTrue(many[2] < many[3] < many[4] < many[0])

    def test_places_of_counted_rounds(self):
        text = "unit u size 10\nfunction main()\nbody main\n  local i number\n  while (i < 3)\n    i = (i + 1)"
        made = [[compiled(program_of(text)[0])]]
        for rounds in range(31):
            web, names = label_web(made, "u", {("u", 0, 1): rounds})
            # start, door, a place for each round, out, end
            self.assertEqual(web[1][0][0], 4 + rounds)
            self.assertEqual(len(names), 3 if rounds else 2)
        self.assertEqual(label_web(made, "u")[0][1][0][0], 5)

    def test_labels_that_passes_left_out(self):
        # the first round cannot be left ahead of it: this arm is folded away
        text = "unit u size 10\nfunction main()\nbody main\n  local i number\n  while (i < 3)\n    i = (i + 1)"
        unit = program_of(text)[0]
        plain = [compiled(unit)]
        other = [compiled(unit, [("peel", (0, 1, ())), ("fold",), ("dead",), ("thread",)])]
        self.assertEqual(self.ask([plain], "u"), self.ask([other], "u") + 1)
        self.assertEqual(self.ask([plain, other], "u"), self.ask([other], "u"))
        names = label_web([other], "u")[1]
        self.assertIn((0, "u", (0, 1, (("first", 0, 1),))), names)
        self.assertNotIn((0, "u", (0, 2, (("first", 0, 1),))), names)

    def test_calls_in_last_place(self):
        # their ways back are written as nothing
        other = [compiled(LOOPS[0], [("last",)])]
        names = label_web([other], "u")[1]
        self.assertNotIn((0, "u", (1, 3, ())), names)
        self.assertIn((0, "u", (1, 3, ())), label_web([[compiled(LOOPS[0])]], "u")[1])

    def test_calls_that_do_not_come_back(self):
        plain = [compiled(FAILING[0])]
        laid = [compiled(FAILING[0], [("lay", (0, 3, ()))])]
        for sides in ([plain], [laid], [plain, laid], [laid, plain]):
            # the arm with the call, and the one with the fail, lead nowhere
            self.assertEqual(self.ask(sides, "u"), 1)

    def test_nets(self):
        # a function that is laid in stands in a net of its own, at each way
        unit = LOOPS[0]
        web, names = label_web([[compiled(unit)]], "u")
        self.assertEqual(len(web[1]), 2)
        web, names = label_web([[compiled(unit, [("lay", (0, 9, ()))])]], "u")
        self.assertEqual(len(web[1]), 3)
        web, _ = label_web([[compiled(unit, [("lay", (0, 9, ()))]), ], [compiled(unit)]], "u")
        self.assertEqual(len(web[1]), 3)

    def test_by_dice(self):
        many = 0
        for seed in range(60):
            dice = dice_of(seed)
            program = make_program(dice, nodes=25, most_units=3)
            one, other = objects_by_dice(dice, program, 3), objects_by_dice(dice, program, 3)
            rounds = {}
            for made in one:
                for f, roads in enumerate(made[8]):
                    for k, (_, _, loops) in enumerate(roads):
                        if k in loops and dice.random() < 0.5:
                            rounds[made[1], f, k] = dice.randrange(4)
            sides = [one, dice.sample(other, len(other))]
            many += self.ask(sides[:dice.randint(1, 2)], program[0][0], rounds, 9)
        self.assertGreater(many, 100)

    def test_too_many(self):
        # four loops, one in the other: 31 ** 4 places; and many loops one behind another
        inner = "".join("  " * deep + f"while (x < {deep})\n" for deep in range(1, 5)) + "          x = 3"
        text = f"unit u size 10\nfunction main()\nbody main\n  local x number\n{inner}"
        made = [[compiled(program_of(text)[0])]]
        labels = [("u", 0, k) for k in (1, 3, 5, 7)]
        self.assertTrue(label_web(made, "u"))
        self.assertTrue(label_web(made, "u", {label: 3 for label in labels}))
        with self.assertRaises(TooMany) as caught:
            label_web(made, "u", {label: 30 for label in labels})
        self.assertEqual(caught.exception.most, 4000)

    def test_bounds_of_places(self):
        # one loop whose places are counted: 30 rounds of so many labels
        for ifs, is_large in ((64, False), (66, False), (67, True)):
            text = "unit u size 10\nfunction main()\nbody main\n  local x truth\n  while x\n" + "    if x\n" * ifs
            made = [[compiled(program_of(text.replace("if x\n", "if yes\n"))[0])]]
            # start, door, out, end; by each round itself, and two for each if
            places = 4 + 30 * (1 + 2 * ifs)
            if places > 4000:
                self.assertRaises(TooMany, label_web, made, "u", {("u", 0, 1): 30})
            else:
                self.assertEqual(label_web(made, "u", {("u", 0, 1): 30})[0][1][0][0], places)
            self.assertEqual(places > 4000, is_large)


class ErrorsTest(unittest.TestCase):

    def raises(self, error, *args, fields=()):
        with self.assertRaises(error) as caught:
            label_web(*args)
        for name, value in fields:
            self.assertEqual(getattr(caught.exception, name), value)

    def test_in_order(self):
        u = thing("u", uses=(("v", "f", NUMBER, None),))
        v = thing("v", functions=(("f", NUMBER, None, 0, cells_of(0, ("return",))),))
        for value in ODD_VALUES + ([], [[u]] * 3):
            self.raises(BadSides if value not in ([1], (1,), ((),), [[]], (None, None), ("row",)) and (
                not isinstance(value, (list, tuple)) or not 1 <= len(value) <= 2) else BadObjects, value, None, 7)
        self.raises(BadObjects, [[u, v], [u, None]], None, 7)
        self.raises(BadObjects, [[u, u], []], None, 7)
        self.raises(UnlikeSizes, [[u, u, thing("w", size=9)], [u, u]], None, 7)
        self.raises(Twice, [[u, v, v], [thing("w", size=9), v]], None, 7, fields=[("name", "v")])
        self.raises(NoMain, [[u], [u]], "v", 7)
        self.raises(NoMain, [[u, v], [u]], None, 7)
        self.raises(Missing, [[u], [u, u]], "u", 7, fields=[("unit", "u"), ("index", 0)])
        other = thing("v", functions=(("f", (), None, 0, cells_of(0, ("return",))),))
        self.raises(Unlike, [[u, v], [u, other]], "u", 7, fields=[("unit", "u"), ("index", 0)])
        self.raises(Missing, [[u, v], [u]], "u", 7)
        self.raises(UnlikeSides, [[u, v], [u, v, thing("w")]], "u", 7)
        self.raises(BadRounds, [[u, v], [v, u]], "u", 7)

    def test_unlike_sides(self):
        roads = thing()[8]
        one = [thing("u", uses=(("v", "main", (), None),)), thing("v")]
        for other in (
                [thing("u"), thing("v")], [one[0], thing("v"), thing("w")], [thing("v"), thing("u"), ],
                [one[0], thing("v", functions=(("main", cells_of(0, ("return",))), ("g", cells_of(1, ("return",)))))],
                [one[0], thing("v", functions=(("main", cells_of(0, ("return",))),))[:8] + (((((), ("fail",), ()),),),)]):
            self.raises(UnlikeSides, [one, other], "u", 7)
            self.raises(UnlikeSides, [other, one], "u", 7)
        self.assertEqual(roads, one[1][8])
        # cells, registers, sizes and stores may be others, and the order too
        other = [thing("v", registers=7, size=11, stores=(("s", 3),)), thing("u", uses=one[0][4], size=11)]
        self.assertTrue(label_web([one, other], "u"))

    def test_rounds(self):
        made = [[compiled(LOOPS[0])]]
        for value in ODD_VALUES:
            if value is not None and value != {}:
                self.raises(BadRounds, made, "u", value)
        right = ("u", 0, 1)
        for value in (-1, 31, None, True, "1"):
            self.raises(BadRounds, made, "u", {right: value})
        for label in (("u", 0, 0), ("u", 0, 2), ("v", 0, 1), ("u", 1, 1), ("u", 0, 99), ("u", 2, 0), ("u", 0), right + (0,), "u", 1, None,
                      ("u", -1, 1), ("u", 0, -1), (0, 0, 1), ("u", None, 1)):
            self.raises(BadRounds, made, "u", {right: 1, label: 1})
        self.raises(BadRounds, made, "u", {("u", 0, True): 1})
        self.assertTrue(label_web(made, "u", {right: 0, ("u", 0, 3): 30}))


class TotalsTest(unittest.TestCase):

    def setUp(self):
        self.one = [compiled(unit) for unit in two()]
        self.other = [compiled(unit, [("fold",)], 4) for unit in two()]

    def test_totals(self):
        names = label_web([self.one, self.other], "u")[1]
        books = [dice_book(dice_of(1)), dice_book(dice_of(2))]
        found = totals(names, [self.one, self.other], books)
        self.assertIsInstance(found, tuple)
        tables = [{made[1]: prices(made, book) for made in side} for side, book in zip((self.one, self.other), books)]
        self.assertEqual(found, tuple(tables[side][unit][label][2] for side, unit, label in names))
        self.assertEqual(totals(names=(), sides=[self.one], books=books[:1]), ())
        # in any order, and more than once
        self.assertEqual(totals(names[3:5] + names[:1] * 2, (self.one, self.other), tuple(books)), found[3:5] + found[:1] * 2)

    def test_errors_in_order(self):
        right = (0, "u", (0, 0, ()))
        bare = thing(functions=(("main", cells_of(0, SHOW)),))
        for value in ODD_VALUES + ([right],):
            if value != ():
                self.assertRaises(BadNames, totals, value, None, None)
        for name in ((2, "u", (0, 0, ())), (-1,) + right[1:], (True,) + right[1:], (0, "if", (0, 0, ())), (0, None, (0, 0, ())), (0, "u", (0, 0)),
                     (0, "u", (0, 0, [])), right[:2], right + (1,), list(right), None, (None,) + right[1:]):
            self.assertRaises(BadNames, totals, (right, name), None, None)
        for value in (None, [], 5, [[bare]] * 3, {}):
            self.assertRaises(BadSides, totals, (right,), value, None)
        self.assertRaises(BadObjects, totals, (right,), [[bare], [None]], None)
        book = even_book(1)
        for value in (None, [], [book], [book] * 3, [book, None], book, [book, {}], 5):
            self.assertRaises(BadBooks, totals, (right,), [self.one, [bare]], value)
        self.assertRaises(NotLed, totals, ((0, "x", (0, 0, ())),), [self.one, [bare]], [book] * 2)
        for name in ((0, "x", (0, 0, ())), (0, "u", (0, 99, ())), (1, "u", (0, 0, ())), (0, "v", (0, 0, (("at", 0, 1),)))):
            with self.assertRaises(NoLabel) as caught:
                totals((right, name, name), [self.one], [book])
            self.assertEqual(caught.exception.index, 1)


if __name__ == "__main__":
    unittest.main()
