"""[25] to [27]: roads and books of roads, which labels follow, facts."""

import unittest

from labelclocks.errors import BadLabels, BadProgram, BadUnit
from labelclocks.meaning import Run
from labelclocks.readtexts import program_of, unit_of
from labelclocks.sourceroads import follows, is_road_book, road_book
from labelclocks.units import labels_of, stations_of
from tests.checks import ODD_VALUES
from tests.makers import dice_of, make_program
from tests.test_meaning import EXAMPLE

GIVE = ("give",)
FAIL = ("fail",)


def roads_of(body, heads="", functions="", bodies=""):
    """The roads of main with this body; x, y are numbers, t is a truth, g a row."""
    lines = "".join(f"  {line}\n" for line in body)
    return road_book(unit_of(
        f"unit u size 10\n{heads}function main()\n{functions}body main\n  local x number\n  local y number\n"
        f"  local t truth\n  local g row 4 number\n{lines}{bodies}"))[0]


class RoadsTest(unittest.TestCase):

    def test_the_example(self):
        book = road_book(program_of(EXAMPLE)[0])
        self.assertEqual(book, (
            (((0,), ("arms", 1, 2), ()), ((), ("call", ("own", 1), 3), ()), ((1,), GIVE, ()), ((1,), GIVE, ())),
            (((), GIVE, ()),)))
        self.assertEqual(road_book(unit=program_of(EXAMPLE)[0]), book)

    def test_doors(self):
        self.assertEqual(roads_of([]), (((), GIVE, ()),))
        self.assertEqual(roads_of(["fail 1", "show 0 1"]), (((0,), FAIL, ()),))
        self.assertEqual(roads_of(["give", "ask x"]), (((), GIVE, ()),))
        self.assertEqual(roads_of(["x = 1", "ask x", "show 0 x"]), (((0, 1), GIVE, ()),))

    def test_stations_in_the_order_of_the_run(self):
        # put: the address, then the value; an item and an over behind their parts
        self.assertEqual(roads_of(["g[(1 over x)] = (g[0] rest 2)"]), (((1, 0, 3, 2), GIVE, ()),))
        # show and ask behind their parts
        self.assertEqual(roads_of(["show 0 (x over y)", "ask g[g[1]]"]), (((1, 0, 4, 3, 2), GIVE, ()),))
        self.assertEqual(roads_of(["x = ((x over y) rest (x over y))"]), (((1, 2, 0), GIVE, ()),))

    def test_ifs(self):
        body = ["if (g[x] < 1)", "  show 0 1", "else", "  show 0 2", "  fail 1", "show 0 3"]
        self.assertEqual(roads_of(body), (
            ((0,), ("arms", 1, 2), ()), ((1, 4), GIVE, ()), ((2, 3), FAIL, ())))
        body = ["if t", "  if t", "    show 0 1", "  ask x", "show 0 3"]
        self.assertEqual(roads_of(body), (
            ((), ("arms", 1, 2), ()), ((), ("arms", 3, 4), ()), ((2,), GIVE, ()), ((0, 1, 2), GIVE, ()),
            ((1, 2), GIVE, ())))

    def test_whiles(self):
        body = ["while (g[x] < 1)", "  ask x", "show 0 x"]
        self.assertEqual(roads_of(body), (
            ((0,), ("arms", 1, 2), ()), ((1, 0), ("arms", 1, 2), (1,)), ((2,), GIVE, ())))

    def test_break_again_and_give_in_loops(self):
        body = [
            "while (g[0] < 1)", "  if t", "    break", "  else", "    ask x", "    again", "  show 0 1", "show 0 2"]
        self.assertEqual(roads_of(body), (
            ((0,), ("arms", 1, 2), ()), ((), ("arms", 3, 4), (1,)), ((3,), GIVE, ()), ((3,), GIVE, (1,)),
            ((1, 0), ("arms", 1, 2), (1,))))
        body = ["while t", "  give", "  show 0 1"]
        self.assertEqual(roads_of(body), (((), ("arms", 1, 2), ()), ((), GIVE, (1,)), ((), GIVE, ())))

    def test_loops_in_loops(self):
        body = [
            "while t", "  while t", "    if t", "      break", "    call main()", "  ask x", "  while t", "    again",
            "show 0 x"]
        self.assertEqual(roads_of(body), (
            ((), ("arms", 1, 2), ()),
            ((), ("arms", 3, 4), (1,)),
            ((1,), GIVE, ()),
            ((), ("arms", 5, 6), (1, 3)),
            ((0,), ("arms", 8, 9), (1,)),
            ((0,), ("arms", 8, 9), (1, 3)),
            ((), ("call", ("own", 0), 7), (1, 3)),
            ((), ("arms", 3, 4), (1, 3)),
            ((), ("arms", 8, 9), (1, 8)),
            ((), ("arms", 1, 2), (1,))))

    def test_calls(self):
        heads = "use v.f(worth number, place number) number\n"
        body = ["g[x] = call v.f((x over 2), g[3])", "show 0 x", "call main()"]
        self.assertEqual(roads_of(body, heads=heads), (
            ((1, 2), ("call", ("use", 0), 1), ()), ((0, 3), ("call", ("own", 0), 2), ()), ((), GIVE, ())))

    def test_other_functions(self):
        unit = unit_of("unit u size 10\nfunction f()\nfunction g() truth\nbody f\n  t = call g()\n".replace(
            "  t =", "  local t truth\n  t =") + "body g\n  while yes\n    give no")
        self.assertEqual(road_book(unit), (
            (((), ("call", ("own", 1), 1), ()), ((), GIVE, ())),
            (((), ("arms", 1, 2), ()), ((), GIVE, (1,)), ((), GIVE, ()))))

    def test_bad_units(self):
        for value in ODD_VALUES + (program_of(EXAMPLE), list(program_of(EXAMPLE)[0])):
            self.assertRaises(BadUnit, road_book, value)

    def test_made_ones(self):
        for seed in range(60):
            for unit in make_program(dice_of(seed), 100):
                book = road_book(unit)
                self.assertIs(is_road_book(book), True)
                for f, roads in enumerate(book):
                    labels = [word for word, _ in labels_of(unit, f)]
                    words = [word for word, _ in stations_of(unit, f)]
                    self.assertEqual(len(roads), len(labels))
                    for k, (stations, ending, loops) in enumerate(roads):
                        self.assertEqual(len(set(stations)), len(stations))
                        self.assertTrue(all(s < len(words) for s in stations))
                        self.assertTrue(all(labels[n] == "round" for n in loops))
                        self.assertEqual(labels[k] == "round", loops[-1:] == (k,))
                        if ending[0] == "arms":
                            self.assertIn((labels[ending[1]], labels[ending[2]]), (("yes", "no"), ("round", "out")))
                        if ending[0] == "call":
                            self.assertEqual(labels[ending[2]], "back")
                        if ending[0] == "fail":
                            self.assertEqual(words[stations[-1]], "fail")


class BooksTest(unittest.TestCase):

    def book(self, road, many=3, functions=2):
        """A book whose first function has this road and others."""
        plain = ((), GIVE, ())
        return ((road,) + (plain,) * (many - 1),) + ((plain,),) * (functions - 1)

    def right(self, stations=(), ending=GIVE, loops=(), many=3, functions=2):
        self.assertIs(is_road_book(self.book((stations, ending, loops), many, functions)), True)

    def wrong(self, stations=(), ending=GIVE, loops=(), many=3, functions=2):
        self.assertIs(is_road_book(self.book((stations, ending, loops), many, functions)), False)

    def test_books_and_functions(self):
        plain = ((), GIVE, ())
        for many in (1, 6):
            self.right(functions=many)
        self.wrong(functions=7)
        for many in (1, 151):
            self.right(many=many)
        self.wrong(many=152)
        for value in ODD_VALUES + (((),), ((plain,), ()), [(plain,)], ([plain],), ((list(plain),),), (plain,), ((plain, 1),)):
            self.assertIs(is_road_book(value), False)
        for road in (((), GIVE), ((), GIVE, (), ()), (), None, [(), GIVE, ()]):
            self.assertIs(is_road_book(self.book(road)), False)

    def test_stations(self):
        for stations in ((), (0,), (149,), (3, 1, 2), tuple(range(150))):
            self.right(stations=stations)
        for stations in (
                (150,), (-1,), (1, 1), (True,), (None,), [1], None, 1, "1", (0, "1"), ((1,),), ([],), tuple(range(151))):
            self.wrong(stations=stations)

    def test_endings(self):
        for ending in (
                GIVE, FAIL, ("arms", 0, 1), ("arms", 1, 2), ("call", ("own", 0), 0), ("call", ("own", 1), 2),
                ("call", ("use", 0), 1), ("call", ("use", 5), 1)):
            self.right(ending=ending)
        for ending in (
                None, (), "give", ["give"], ("give", 1), ("fail", 1), ("give", None), ("end",), (["give"],), (1,),
                ("arms", 2, 3), ("arms", 0, 2), ("arms", 1, 0), ("arms", 1, 1), ("arms", -1, 0), ("arms", True, 2),
                ("arms", 0, True), ("arms", 0), ("arms", 0, 1, 2), ("arms", None, 1), ["arms", 0, 1], ("arms", "0", 1),
                ("call", ("own", 2), 0), ("call", ("own", -1), 0), ("call", ("own", True), 0), ("call", ("use", 6), 0),
                ("call", ("use", -1), 0), ("call", ("own", 0), 3), ("call", ("own", 0), -1), ("call", ("own", 0), True),
                ("call", ["own", 0], 0), ("call", ("own",), 0), ("call", ("own", 0, 0), 0), ("call", None, 0),
                ("call", ("by", 0), 0), ("call", ("own", 0)), ("call", ("own", 0), 0, 0), ("call", ("own", None), 0),
                ("jump", 0, 1), ("jump", ("own", 0), 0), (None, ("own", 0), 0), (None, 0, 1), ("call", ("own", 0), None)):
            self.wrong(ending=ending)

    def test_loops(self):
        for loops in ((), (0,), (2,), (0, 1, 2), (0, 2)):
            self.right(loops=loops)
        for loops in ((3,), (-1,), (1, 0), (1, 1), (True,), (0, None), [0], None, 0, "0", ((0,),), (0, 1, 2, 3)):
            self.wrong(loops=loops)

    def test_one_part_exchanged(self):
        book = road_book(program_of(EXAMPLE)[0])
        self.assertTrue(is_road_book(value=book))
        for f, roads in enumerate(book):
            for k, road in enumerate(roads):
                for at in range(3):
                    for value in (None, True, 7, "x", [road[at]], (road[at],) if road[at] else (None,)):
                        changed = road[:at] + (value,) + road[at + 1:]
                        told = roads[:k] + (changed,) + roads[k + 1:]
                        self.assertIs(is_road_book(book[:f] + (told,) + book[f + 1:]), False)


class FollowsTest(unittest.TestCase):

    def setUp(self):
        self.program = program_of(EXAMPLE)
        self.labels = [("u", 0, 0), ("u", 0, 1), ("u", 1, 0), ("u", 0, 3)]

    def test_the_example(self):
        told = [[("u", 0, 0)], [("u", 0, 1), ("u", 0, 2)], [("u", 1, 0)], [("u", 0, 3)], []]
        for many in range(5):
            self.assertEqual(follows(self.program, self.labels[:many]), told[many])
        self.assertEqual(follows(self.program, tuple(self.labels[:1])), told[1])
        self.assertEqual(follows(self.program, [("u", 0, 0), ("u", 0, 2)]), [])
        self.assertEqual(follows(program=self.program, labels=[]), told[0])

    def bad(self, program, labels, index):
        with self.assertRaises(BadLabels) as caught:
            follows(program, labels)
        self.assertEqual(caught.exception.index, index)

    def test_labels_that_cannot_be(self):
        for label in (
                ("u", 0, 1), ("u", 0, 4), ("v", 0, 0), ("u", 1, 0), None, ("u", False, 0), ("u", 0, False), ["u", 0, 0],
                ("u", 0), ("u", 0, 0, 0), (["u"], 0, 0), 0, "u", ("u", 0, "0"), ("u", 0, {}), ("u", 0, 0, ())):
            self.bad(self.program, [label], 0)
            self.bad(self.program, [label] + self.labels, 0)
        for at in range(1, 5):
            self.bad(self.program, self.labels[:at] + [("u", 0, 0)] + self.labels[at:], at)
            self.bad(self.program, self.labels[:at] + [None], at)
        # behind the end there is nothing
        self.bad(self.program, self.labels + [("u", 0, 0)], 4)

    def test_no_lists(self):
        for labels in (None, 1, "u", {}, {("u", 0, 0): 1}, [("u", 0, 0)] * 100001):
            self.bad(self.program, labels, -1)

    def test_long_lists(self):
        program = program_of("unit u size 10\nfunction main()\nbody main\n  while yes")
        labels = [("u", 0, 0)] + [("u", 0, 1)] * 99999
        self.assertEqual(follows(program, labels), [("u", 0, 1), ("u", 0, 2)])
        self.bad(program, labels + [("u", 0, 1)], -1)

    def test_fails_and_the_end_of_main(self):
        program = program_of("unit u size 10\nfunction main()\nbody main\n  if yes\n    fail 1")
        self.assertEqual(follows(program, [("u", 0, 0), ("u", 0, 1)]), [])
        self.assertEqual(follows(program, [("u", 0, 0), ("u", 0, 2)]), [])
        self.bad(program, [("u", 0, 0), ("u", 0, 1), ("u", 0, 0)], 2)
        # a fail within a call goes back to nothing
        program = program_of("unit u size 10\nfunction main()\nfunction f()\nbody main\n  call f()\nbody f\n  fail 1")
        self.assertEqual(follows(program, [("u", 0, 0), ("u", 1, 0)]), [])
        self.bad(program, [("u", 0, 0), ("u", 1, 0), ("u", 0, 1)], 2)

    def test_calls_within_calls_and_other_units(self):
        program = program_of(
            "unit u size 10\nuse v.f()\nfunction g()\nfunction main()\nbody g\nbody main\n  call v.f()\n  call main()\n"
            "unit v size 10\nuse u.g()\nfunction f()\nbody f\n  call u.g()")
        labels = [
            ("u", 1, 0), ("v", 0, 0), ("u", 0, 0), ("v", 0, 1), ("u", 1, 1), ("u", 1, 0), ("v", 0, 0), ("u", 0, 0),
            ("v", 0, 1), ("u", 1, 1), ("u", 1, 0)]
        for at, label in enumerate(labels):
            self.assertEqual(follows(program, labels[:at]), [label])

    def test_bad_programs_go_first(self):
        for value in ODD_VALUES + (self.program[0],):
            self.assertRaises(BadProgram, follows, value, None)

    def test_what_is_returned_is_new(self):
        follows(self.program, []).clear()
        self.assertEqual(len(follows(self.program, [])), 1)


class FactsTest(unittest.TestCase):

    def test_runs_keep_to_the_roads(self):
        for seed in range(120):
            dice = dice_of(seed)
            program = make_program(dice, 100, seed % 3 > 0)
            books = {unit[0]: road_book(unit) for unit in program}
            words = {
                (unit[0], f): [word for word, _ in stations_of(unit, f)]
                for unit in program for f in range(len(unit[4]))}
            run = Run(program, [dice.randrange(100) for _ in range(10)])
            run.go(dice.choice((20, 100)))
            self.ask_labels(program, run)
            self.ask_stations(run, books, words)

    def ask_labels(self, program, run):
        labels = [item[1] for item in run.trace() if item[0] == "label"]
        for at in range(0, len(labels), 7):
            self.assertIn(labels[at], follows(program, labels[:at]))
        ahead = follows(program, labels)
        if run.state() == "ended":
            self.assertEqual(ahead, [])

    def ask_stations(self, run, books, words):
        """The stations between two labels are those of the road of the first one."""
        parts = []
        for item, station in zip(run.trace(), run.stations()):
            if item[0] == "label":
                parts.append((item[1], []))
            elif item[0] in ("asked", "shown"):
                parts[-1][1].append(station)
        for at, ((unit, f, k), told) in enumerate(parts):
            road = [s for s in books[unit][f][k][0] if words[(unit, f)][s] in ("ask", "show")]
            road = [(unit, f, s) for s in road]
            whole = at + 1 < len(parts) or run.state() == "ended"
            self.assertEqual(told, road if whole else road[:len(told)])
        last = run.trace()[-1]
        if last[0] == "failed":
            unit, f, k = parts[-1][0]
            told = [(unit, f, s) for s in books[unit][f][k][0]]
            where = run.stations()[-1]
            self.assertIn(where, told)
            for station in parts[-1][1]:
                self.assertLess(told.index(station), told.index(where))
