"""[81], [83]: bounds of whole runs, and one way of compiling beside another."""

import unittest

from labelclocks.books import even_book
from labelclocks.bounds import between, gap
from labelclocks.compiling import compiled
from labelclocks.errors import (
    BadBook, BadObjects, BadRounds, Missing, NoMain, NoRoad, NotLed, TooMany, UnlikeSides, UnlikeSizes,
)
from labelclocks.extremes import least, revalued
from labelclocks.imagewebs import web_of
from labelclocks.labelwebs import label_web, totals
from labelclocks.linking import linked
from labelclocks.readtexts import program_of
from tests.checks import ODD_VALUES
from tests.compile import dice_book, machine_of, objects_by_dice, two
from tests.makers import dice_of, make_program
from tests.test_labelwebs import FAILING, LOOPS
from tests.test_led import SHOW
from tests.test_linking import NUMBER, cells_of, thing
from tests.toldroads import told_counts

PLAIN = program_of("""
unit u size 100
use v.f(worth number) number
function main()
function g(place p number)
body main
  local x number
  ask x
  if (x < 50)
    x = call v.f(x)
  else
    call g(x)
    call g(x)
  show 0 x
body g
  p = (p / 2)
unit v size 100
function f(worth n number) number
body f
  if (n < 10)
    give 1
  give (n * n)
""".replace("/", "over"))
ENDLESS = program_of("unit u size 10\nfunction main()\nbody main\n  while yes\n    show 0 1")


def beats_of_roads(sides, main, books, rounds, most):
    """For each told road the list of its beats on each side, the totals alone."""
    found = []
    for counts in told_counts(sides, main, rounds, most):
        names = tuple(name for name, _ in counts)
        prices = totals(names, sides, books)
        beats = [0] * len(sides)
        for (name, many), price in zip(counts, prices):
            beats[name[0]] += many * price
        found.append(beats)
    return found


class BetweenTest(unittest.TestCase):

    def test_without_loops(self):
        for seed in range(8):
            dice = dice_of(seed)
            book = dice_book(dice)
            objects = objects_by_dice(dice, PLAIN)
            least_told, greatest = between(objects, "u", book)
            roads = [beats + book["call"] + book["halt"] for beats, in beats_of_roads([objects], "u", [book], None, 20)]
            self.assertEqual((least_told, greatest), (min(roads), max(roads)))
            # each of them is told by a run here
            seen = [machine_of(objects, "u", [number], book).beats() for number in (3, 20, 60)]
            self.assertEqual((min(seen), max(seen)), (least_told, greatest))

    def test_with_loops(self):
        book = even_book(1)
        objects = [compiled(LOOPS[0])]
        least_told, greatest = between(objects, "u", book)
        self.assertIsNone(greatest)
        self.assertEqual(least_told, 2 + min(beats_of_roads([objects], "u", [book], None, 12))[0])
        # f comes to itself, so rounds do not bound it
        rounds = {("u", 0, 1): 2, ("u", 0, 3): 3}
        self.assertEqual(between(objects, "u", book, rounds), (least_told, None))
        self.assertEqual(between(objects=objects, main="u", book=book, rounds={}), (least_told, None))

    def test_rounds(self):
        text = "unit u size 10\nfunction main()\nbody main\n  local i number\n  while (i < 3)\n    i = (i + 1)\n    if (i < 2)\n      show 0 i"
        objects = [compiled(program_of(text)[0])]
        book = dice_book(dice_of(5))
        self.assertIsNone(between(objects, "u", book)[1])
        before = 0
        for rounds in range(5):
            bounds = {("u", 0, 1): rounds}
            told = between(objects, "u", book, bounds)
            roads = [beats + book["call"] + book["halt"] for beats, in beats_of_roads([objects], "u", [book], bounds, 20)]
            self.assertEqual(told, (min(roads), max(roads)))
            self.assertGreater(told[1], before)
            before = told[1]
            run = machine_of(objects, "u", [], book)
            self.assertIs(told[0] <= run.beats() <= told[1], rounds >= 3)

    def test_runs_keep_to_the_bounds(self):
        ended, bounded = 0, 0
        for seed in range(70):
            dice = dice_of(seed)
            program = make_program(dice, nodes=50, most_units=3)
            objects = objects_by_dice(dice, program)
            book = dice_book(dice)
            run = machine_of(objects, program[0][0], [dice.randrange(10000) for _ in range(5)], book)
            try:
                least_told, greatest = between(objects, program[0][0], book)
            except NoRoad:
                self.assertNotEqual(run.state(), "ended")
                continue
            if run.state() == "ended":
                ended += 1
                self.assertLessEqual(least_told, run.beats())
                if greatest is not None:
                    bounded += 1
                    self.assertLessEqual(run.beats(), greatest)
        self.assertGreater(ended, 30)
        self.assertGreater(bounded, 5)

    def test_no_road(self):
        for program in (ENDLESS, program_of("unit u size 10\nfunction main()\nbody main\n  fail 3")):
            objects = [compiled(unit, [("fold",), ("thread",)]) for unit in program]
            self.assertRaises(NoRoad, between, objects, "u", even_book(1))
            self.assertRaises(NoRoad, gap, objects, objects, "u", even_book(1))
        text = "unit u size 10\nfunction main()\nbody main\n  while yes\n    if yes\n      break"
        folded = [compiled(program_of(text)[0], [("fold",), ("thread",)])]
        self.assertTrue(between(folded, "u", even_book(1), {("u", 0, 1): 1}))
        self.assertRaises(NoRoad, between, folded, "u", even_book(1), {("u", 0, 1): 0})
        objects = [compiled(LOOPS[0])]
        self.assertTrue(between(objects, "u", even_book(1), {("u", 0, 1): 0}))

    def test_the_web_of_the_image(self):
        compared = 0
        for seed in range(40):
            dice = dice_of(seed)
            program = (two(), PLAIN, LOOPS, FAILING)[seed] if seed < 4 else make_program(dice, nodes=50, most_units=3)
            objects = objects_by_dice(dice, program)
            book = dice_book(dice)
            main = program[0][0]
            web, _, _ = web_of(linked(objects, main, 2000, dice.random() < 0.5), book)
            few = least(web)
            negative = (web[0], tuple((places, tuple(edge[:3] + (-edge[3],) + edge[4:] for edge in edges)) for places, edges in web[1]))
            many = least(negative)
            if few[0] == "none":
                self.assertRaises(NoRoad, between, objects, main, book)
                continue
            told = between(objects, main, book)
            self.assertEqual(told[0], few[1] if few[0] == "least" else None)
            self.assertEqual(told[1], -many[1] if many[0] == "least" else None)
            compared += 1
        self.assertGreater(compared, 20)

    def test_even_books_tell_steps(self):
        for number in (3, 20, 60):
            objects = [compiled(unit) for unit in PLAIN]
            told = between(objects, "u", even_book(1))
            run = machine_of(objects, "u", [number], even_book(1))
            self.assertEqual(run.steps(), run.beats())
            self.assertTrue(told[0] <= run.steps() <= told[1])
        self.assertEqual(between(objects, "u", even_book(3)), (3 * told[0], 3 * told[1]))

    def test_without_loops_both_are_bounds(self):
        found = 0
        for seed in range(60):
            dice = dice_of(seed)
            program = make_program(dice, nodes=40, most_units=2)
            objects = objects_by_dice(dice, program)
            if calls_itself(objects) or any(loops for made in objects for roads in made[8] for _, _, loops in roads):
                continue
            found += 1
            self.assertNotIn(None, between(objects, program[0][0], even_book(1)))
        self.assertNotIn(None, between([compiled(unit) for unit in PLAIN], "u", even_book(1)))
        self.assertGreater(found, 2)

    def test_by_the_label_web(self):
        objects = [compiled(unit) for unit in PLAIN]
        book = dice_book(dice_of(9))
        web, names = label_web([objects], "u")
        weights = totals(names, [objects], [book])
        ends = book["call"] + book["halt"]
        self.assertEqual(between(objects, "u", book), (
            ends + least(revalued(web, weights))[1], ends - least(revalued(web, tuple(-weight for weight in weights)))[1]))


def calls_itself(objects):
    """Whether some function comes to itself."""
    names = {made[1]: [function[0] for function in made[6]] for made in objects}
    links = {}
    for made in objects:
        for f, roads in enumerate(made[8]):
            links[made[1], f] = set()
            for _, ending, _ in roads:
                if ending[0] == "call" and ending[1][0] == "own":
                    links[made[1], f].add((made[1], ending[1][1]))
                elif ending[0] == "call":
                    unit, function = made[4][ending[1][1]][:2]
                    links[made[1], f].add((unit, names[unit].index(function)))
    for first in links:
        reached = set(links[first])
        for _ in links:
            reached |= {goal for one in reached for goal in links[one]}
        if first in reached:
            return True
    return False


class GapTest(unittest.TestCase):

    def test_by_roads(self):
        for seed in range(8):
            dice = dice_of(seed)
            book = dice_book(dice)
            one, other = objects_by_dice(dice, PLAIN), objects_by_dice(dice, PLAIN)[::-1]
            roads = beats_of_roads([one, other], "u", [book] * 2, None, 20)
            self.assertEqual(gap(one, other, "u", book), min(there - here for here, there in roads))
            self.assertEqual(gap(other, one, "u", book), min(here - there for here, there in roads))
            self.assertEqual(gap(one, one, "u", book), 0)

    def test_never_slower(self):
        unit = program_of("unit u size 10\nfunction main()\nbody main\n  local i number\n  while (i < 9)\n    i = (i + (1 * 1))")[0]
        one, other = [compiled(unit, [("fold",), ("dead",)])], [compiled(unit)]
        self.assertGreaterEqual(gap(one, other, "u", even_book(1)), 0)
        self.assertIsNone(gap(other, one, "u", even_book(1)))
        bounded = gap(other, one, "u", even_book(1), {("u", 0, 1): 9})
        self.assertLess(bounded, 0)
        self.assertEqual(bounded, machine_of(one, "u", [], even_book(1)).beats() - machine_of(other, "u", [], even_book(1)).beats())

    def test_runs_keep_to_the_gap(self):
        asked = 0
        for seed in range(60):
            dice = dice_of(seed)
            program = make_program(dice, nodes=50, most_units=2) if seed % 3 else two()
            one, other = objects_by_dice(dice, program), objects_by_dice(dice, program)
            book = dice_book(dice)
            main = program[0][0]
            try:
                told = gap(one, other, main, book)
            except NoRoad:
                continue
            inputs = [dice.randrange(10000) for _ in range(5)]
            runs = [machine_of(objects, main, inputs, book) for objects in (one, other)]
            if told is not None and runs[0].state() == "ended" and runs[1].state() == "ended":
                asked += 1
                self.assertGreaterEqual(runs[1].beats() - runs[0].beats(), told)
        self.assertGreater(asked, 5)

    def test_told_roads_of_two_ways(self):
        # but for labels that passes have left out, they are the same
        for words in ([("peel", (0, 1, ()))], [("lay", (0, 9, ()))], [("last",)]):
            one, other = [compiled(LOOPS[0])], [compiled(LOOPS[0], words)]
            self.assertEqual(
                len(told_counts([one], "u", None, 11)), len(told_counts([other], "u", None, 11)))


class ErrorsTest(unittest.TestCase):

    def test_between(self):
        right = [compiled(unit) for unit in PLAIN]
        bare = [thing(functions=(("main", cells_of(0, SHOW)),))]
        book = even_book(1)
        for value in ODD_VALUES + ([], right[0], [None]):
            self.assertRaises(BadObjects, between, value, None, None, 7)
        self.assertRaises(UnlikeSizes, between, [thing(), thing("v", size=9)], None, None, 7)
        self.assertRaises(NoMain, between, right, "v", None, 7)
        self.assertRaises(Missing, between, right[:1], "u", None, 7)
        for value in ODD_VALUES:
            self.assertRaises(BadBook, between, bare, "u", value, 7)
        self.assertRaises(BadRounds, between, bare, "u", book, 7)
        self.assertRaises(NotLed, between, bare, "u", book, None)
        inner = "".join("  " * deep + "while yes\n" for deep in range(1, 5)) + "          show 0 1"
        large = compiled(program_of(f"unit u size 10\nfunction main()\nbody main\n{inner}")[0])
        rounds = {("u", 0, k): 30 for k in (1, 3, 5, 7)}
        self.assertRaises(TooMany, between, [large], "u", book, rounds)

    def test_gap(self):
        right = [compiled(unit) for unit in PLAIN]
        bare = [thing(functions=(("main", cells_of(0, SHOW)),))]
        book = even_book(1)
        for value in ODD_VALUES + ([], [None]):
            self.assertRaises(BadObjects, gap, value, None, None, None, 7)
            self.assertRaises(BadObjects, gap, right, value, None, None, 7)
        self.assertRaises(UnlikeSizes, gap, [thing(), thing("v", size=9)], right, None, None, 7)
        self.assertRaises(NoMain, gap, right, right, "v", None, 7)
        self.assertRaises(Missing, gap, right, right[:1], "u", None, 7)
        self.assertRaises(UnlikeSides, gap, right, bare, "u", None, 7)
        self.assertRaises(UnlikeSides, gap, [thing("u", uses=(("v", "f", NUMBER, "number"),), size=100), right[1]], right, "u", None, 7)
        for value in ODD_VALUES:
            self.assertRaises(BadBook, gap, bare, bare, "u", value, 7)
        self.assertRaises(BadRounds, gap, bare, [thing()], "u", book, 7)
        self.assertRaises(NotLed, gap, [thing()], bare, "u", book)
        self.assertEqual(gap(one=right, other=right, main="u", book=book, rounds=None), 0)


if __name__ == "__main__":
    unittest.main()
