"""[86] to [88]: a bench, its deeds, and clocks told ahead."""

import unittest

from labelclocks.bench import Bench
from labelclocks.books import even_book
from labelclocks.clocks import foretold
from labelclocks.compiling import compiled
from labelclocks.errors import (
    BadBook, BadInputs, BadName, BadOrder, BadPasses, BadProgram, BadRegisters, BadRoom, BadSteps, BadUnit, ClockError, NotHere,
    NotKept, NothingDone, NoUnit, TooLarge, TooLong,
)
from labelclocks.linking import linked
from labelclocks.machine import Machine
from labelclocks.meaning import Run
from labelclocks.prices import prices
from labelclocks.readtexts import program_of, unit_of
from labelclocks.texts import label_spots, unit_text
from tests.benches import (
    MORE_V, OTHER_V, UNITS, W, deed_by_dice, do_deed, machine_shown, shown, shown_now, try_deed, two,
)
from tests.checks import ODD_VALUES
from tests.compile import TWO, dice_book
from tests.makers import dice_of


SMALL = program_of("unit u size 10\nfunction main()\nbody main\n  local x number\n  ask x\n  show 1 (x + 1)")
ENDLESS = program_of("unit u size 10\nfunction main()\nbody main\n  local x number\n  while yes\n    x = (x + 1)")


class BenchCase(unittest.TestCase):

    def refused(self, bench, error, deed, *args, fields=()):
        """Asks a deed to be refused and to change nothing."""
        before = shown(bench)
        with self.assertRaises(error) as caught:
            deed(*args)
        for name, value in fields:
            self.assertEqual(getattr(caught.exception, name), value)
        self.assertEqual(shown(bench), before)

    def as_fresh(self, bench, program, book=None):
        """Asks whether a bench is as a fresh one with which the deeds of log are done in order."""
        fresh = Bench(program, book)
        for deed in bench.log:
            do_deed(fresh, deed)
        self.assertEqual(shown(fresh), shown(bench))
        self.assertTrue(fresh == bench)
        return fresh


class BeginningTest(BenchCase):

    def test_a_new_bench(self):
        bench = Bench(two())
        self.assertEqual(bench.program, two())
        self.assertEqual((bench.names, bench.book, bench.room, bench.inputs), (["u", "v"], even_book(1), 2000, []))
        self.assertEqual((bench.kept, bench.log, len(bench)), ([], [], 0))
        self.assertEqual([bench.ways(name) for name in "uv"], [([], 8)] * 2)
        objects = [compiled(unit) for unit in two()]
        self.assertEqual([bench.made(name) for name in "uv"], objects)
        self.assertEqual(bench.image(), linked(objects, "u", 2000))
        self.assertEqual(machine_shown(bench.machine()), machine_shown(Machine(bench.image(), [], even_book(1))))
        book = dice_book(dice_of(3))
        self.assertEqual(Bench(two(), book).book, book)
        self.assertEqual(Bench(book=None, program=two()).book, even_book(1))

    def test_errors_in_order(self):
        for value in ODD_VALUES:
            self.assertRaises(BadProgram, Bench, value, 7)
            if value is not None:
                self.assertRaises(BadBook, Bench, two(), value)

    def test_what_is_passed_in_stays_the_callers(self):
        book = even_book(4)
        bench = Bench(two(), book)
        book["set"] = 50
        self.assertEqual(bench.book, even_book(4))
        words, inputs, names, other = [("fold",)], [1, 2], ["v", "u"], even_book(5)
        bench.make("u", words, 4)
        bench.begin(inputs)
        bench.arrange(names)
        bench.charge(other)
        before = shown(bench)
        words.append(("dead",))
        inputs.append(3)
        names.reverse()
        other["set"] = 9
        self.assertEqual(shown(bench), before)
        self.as_fresh(bench, two(), even_book(4))


class DeedsTest(BenchCase):

    def test_put(self):
        bench = Bench(two())
        bench.make("v", [("fold",)], 5)
        bench.begin([3])
        bench.go(40)
        bench.put(unit_of(OTHER_V))
        self.assertEqual(bench.program, (two()[0], unit_of(OTHER_V)))
        self.assertEqual(bench.ways("v"), ([("fold",)], 5))
        self.assertEqual(bench.made("v"), compiled(unit_of(OTHER_V), [("fold",)], 5))
        self.assertEqual(bench.machine().steps(), 0)
        self.assertEqual((bench.inputs, bench.names), ([3], ["u", "v"]))
        self.assertEqual(bench.log[-1], ("put", unit_of(OTHER_V)))
        # a new unit stands behind the last one, and is linked last
        bench.arrange(["v", "u"])
        bench.put(unit_of(W))
        self.assertEqual([unit[0] for unit in bench.program], ["u", "v", "w"])
        self.assertEqual(bench.names, ["v", "u", "w"])
        self.assertEqual(bench.ways("w"), ([], 8))
        self.assertEqual(bench.image(), linked([bench.made(name) for name in bench.names], "u", 2000))
        self.as_fresh(bench, two())

    def test_put_is_refused(self):
        bench = Bench(two())
        bench.put(unit_of(W))
        for value in ODD_VALUES:
            self.refused(bench, BadUnit, bench.put, value)
        # what u uses is missing, sizes are unlike, a use is unlike
        self.refused(bench, BadProgram, bench.put, unit_of("unit v size 10\nfunction f()\nbody f"))
        self.refused(bench, BadProgram, bench.put, unit_of("unit x size 9\nfunction f()\nbody f"))
        self.refused(bench, BadProgram, bench.put, unit_of("unit x size 10\nuse y.g()\nfunction f()\nbody f"))
        self.refused(bench, BadProgram, bench.put, unit_of(OTHER_V.replace("note(place p number)", "note(worth p number)")))
        # the first unit without main
        self.refused(bench, BadProgram, bench.put, unit_of("unit u size 10\nfunction twice(place p number)\nbody twice"))
        # with the words of the unit that was there
        bench.make("w", [("last",)], 4)
        self.refused(bench, NotHere, bench.put, unit_of("unit w size 10\nfunction f()\nbody f"))

    def test_drop(self):
        bench = Bench(two())
        bench.put(unit_of(W))
        bench.make("w", [("fold",)], 4)
        bench.arrange(["w", "v", "u"])
        self.refused(bench, BadProgram, bench.drop, "u")
        self.refused(bench, BadProgram, bench.drop, "v")
        for value in ODD_VALUES + ("x", "uu", ["u"], "U"):
            self.refused(bench, NoUnit, bench.drop, value, fields=[("name", value)])
        bench.drop("w")
        self.assertEqual((bench.names, bench.program, bench.log[-1]), (["v", "u"], two(), ("drop", "w")))
        self.assertRaises(NoUnit, bench.ways, "w")
        # its ways are gone with it
        bench.put(unit_of(W))
        self.assertEqual((bench.ways("w"), bench.names), (([], 8), ["v", "u", "w"]))
        self.as_fresh(bench, two())

    def test_drop_of_the_first_unit(self):
        bench = Bench(SMALL)
        bench.put(unit_of("unit v size 10\nfunction main()\nbody main\n  show 0 7"))
        bench.drop("u")
        bench.go(50)
        self.assertEqual(bench.machine().trace()[1:], [("shown", 0, 7), ("end",)])
        self.refused(bench, BadProgram, bench.drop, "v")

    def test_make(self):
        bench = Bench(two())
        bench.go(30)
        before = [bench.made(name) for name in "uv"]
        bench.make("u", (("fold",), ("dead",)), 3)
        self.assertEqual(bench.ways("u"), ([("fold",), ("dead",)], 3))
        self.assertEqual(bench.made("u"), compiled(two()[0], [("fold",), ("dead",)], 3))
        self.assertEqual((bench.made("v"), bench.ways("v")), (before[1], ([], 8)))
        self.assertEqual(bench.machine().steps(), 0)
        self.assertEqual(bench.log[-1], ("make", "u", [("fold",), ("dead",)], 3))
        for value in ODD_VALUES:
            self.refused(bench, NoUnit, bench.make, value, None, None, fields=[("name", value)])
        self.refused(bench, BadPasses, bench.make, "u", None, None, fields=[("index", -1)])
        self.refused(bench, BadPasses, bench.make, "u", [("fold",), 3], None, fields=[("index", 1)])
        self.refused(bench, NotHere, bench.make, "u", [("lay", (0, 1, ()))], None)
        for registers in (2, 9, None, True, "3"):
            self.refused(bench, BadRegisters, bench.make, "u", [], registers)
        self.as_fresh(bench, two())

    def test_too_large(self):
        # a function with more than 500 cells is laid in again and again, in three units
        body = "\n".join(f"  s[{at}] = (((s[0] + s[1]) * (s[2] + s[3])) over (s[4] + 1))" for at in range(4))
        calls = "\n".join("  call g()" for _ in range(16))
        functions = "function g()\nfunction a()\nfunction b()\nfunction c()"
        text = f"unit u size 10\nstore s row 9 number\nfunction main()\n{functions}\nbody main\nbody g\n{body}\nbody a\n{calls}\nbody b\n  call a()\n  call a()\nbody c\n  call a()\n  call a()"
        words = [("lay", (2, k, ())) for k in range(1, 17)] + [("lay", (3, 1, ())), ("lay", (3, 2, ())), ("lay", (4, 1, ())), ("lay", (4, 2, ()))]
        bench = Bench((unit_of(text),))
        for name in ("v", "w"):
            bench.put(unit_of(text.replace("unit u", f"unit {name}")))
        bench.make("u", words, 3)
        bench.make("w", words, 3)
        self.assertGreater(len(bench.image()[5]), 34000)
        self.refused(bench, TooLarge, bench.make, "v", words, 3)
        self.assertRaises(TooLarge, bench.would, "v", words, 3)
        # what another unit of this name would become
        bench.make("w", [], 8)
        bench.make("v", words, 3)
        self.refused(bench, TooLarge, bench.make, "w", words, 3)

    def test_arrange(self):
        bench = Bench(two())
        bench.go(9)
        bench.arrange(("v", "u"))
        self.assertEqual((bench.names, bench.log), (["v", "u"], [("go", 9), ("arrange", ["v", "u"])]))
        self.assertEqual(bench.image(), linked([bench.made("v"), bench.made("u")], "u", 2000))
        self.assertEqual(bench.machine().steps(), 0)
        for value in ODD_VALUES + (["u"], ["u", "u"], ["u", "v", "v"], ["u", "v", "w"], "uv", ["u", None], ["u", ["v"]], {"u": 1, "v": 2}, ["u", 1]):
            self.refused(bench, BadOrder, bench.arrange, value)

    def test_house_charge_begin(self):
        bench = Bench(two())
        bench.go(9)
        bench.house(40)
        self.assertEqual((bench.room, bench.image()[4], bench.machine().steps()), (40, 40, 0))
        bench.go(9)
        book = dice_book(dice_of(2))
        bench.charge(book)
        self.assertEqual((bench.book, bench.machine().steps()), (book, 0))
        bench.go(9)
        bench.begin((4, 9999))
        self.assertEqual((bench.inputs, bench.machine().left(), bench.machine().steps()), ([4, 9999], [4, 9999], 0))
        self.assertEqual(bench.log, [("go", 9), ("house", 40), ("go", 9), ("charge", book), ("go", 9), ("begin", [4, 9999])])
        for value in (7, 20001, None, True, "9", ()):
            self.refused(bench, BadRoom, bench.house, value)
        for value in ODD_VALUES + (dict(book, set=0), dict(book, more=1)):
            self.refused(bench, BadBook, bench.charge, value)
        for value in (None, [10000], [-1], [True], 5, [0] * 401, "12"):
            self.refused(bench, BadInputs, bench.begin, value)
        self.as_fresh(bench, two())

    def test_go(self):
        bench = Bench(two())
        bench.begin([3])
        machine = bench.machine()
        for steps in (1, 0, 5, 40, 3):
            bench.go(steps)
            machine.go(steps)
            self.assertEqual(machine_shown(bench.machine()), machine_shown(machine))
        bench.go(10000)
        machine.go(10000)
        self.assertEqual(machine_shown(bench.machine()), machine_shown(machine))
        self.assertNotEqual(bench.machine().state(), "running")
        # it stands in log though it changes nothing
        bench.go(7)
        self.assertEqual(bench.log[-1], ("go", 7))
        for value in (-1, None, True, "1", [], 20001, 10 ** 99):
            self.refused(bench, BadSteps, bench.go, value)
        self.as_fresh(bench, two())

    def test_at_most_20000_steps(self):
        bench = Bench(ENDLESS)
        self.refused(bench, BadSteps, bench.go, 20001)
        bench.go(19999)
        self.refused(bench, BadSteps, bench.go, 2)
        bench.go(1)
        bench.go(0)
        self.refused(bench, BadSteps, bench.go, 1)
        self.assertEqual(bench.machine().steps(), 20000)
        bench.begin([])
        bench.go(20000)

    def test_keep_and_back(self):
        bench = Bench(two())
        bench.begin([3])
        bench.go(25)
        bench.keep("here")
        kept = shown_now(bench)
        self.assertEqual((bench.kept, bench.log[-1]), (["here"], ("keep", "here")))
        bench.put(unit_of(W))
        bench.make("u", [("fold",)], 3)
        bench.charge(even_book(7))
        bench.house(50)
        bench.go(3)
        bench.keep("after")
        self.assertEqual(bench.kept, ["after", "here"])
        after = shown_now(bench)
        bench.back("here")
        self.assertEqual(shown_now(bench), kept)
        # what is kept, and log, stay
        self.assertEqual((bench.kept, bench.log[-1], len(bench)), (["after", "here"], ("back", "here"), 10))
        bench.go(1)
        bench.back("after")
        self.assertEqual(shown_now(bench), after)
        # in the place of another one
        bench.back("here")
        bench.go(2)
        bench.keep("after")
        bench.begin([])
        bench.back("after")
        self.assertEqual(bench.machine().steps(), 27)
        for value in ODD_VALUES + ("if", "Here", "", "x_"):
            if value != "a":
                self.refused(bench, BadName, bench.keep, value)
            self.refused(bench, NotKept, bench.back, value, fields=[("name", value)])
        self.refused(bench, NotKept, bench.back, "there", fields=[("name", "there")])
        self.as_fresh(bench, two())

    def test_undo(self):
        bench = Bench(two())
        self.refused(bench, NothingDone, bench.undo)
        moments = []
        for seed in range(40):
            dice = dice_of(seed)
            before = shown(bench)
            if try_deed(bench, deed_by_dice(bench, dice)):
                moments.append(before)
            else:
                self.assertEqual(shown(bench), before)
        self.assertGreater(len(moments), 20)
        while moments:
            bench.undo()
            self.assertEqual(shown(bench), moments.pop())
        self.refused(bench, NothingDone, bench.undo)

    def test_undo_takes_what_is_kept_back(self):
        bench = Bench(two())
        bench.keep("x")
        bench.go(5)
        bench.keep("x")
        bench.undo()
        self.assertEqual(bench.kept, ["x"])
        bench.back("x")
        self.assertEqual(bench.machine().steps(), 0)
        bench.undo()
        bench.undo()
        bench.undo()
        self.assertEqual((bench.kept, bench.log), ([], []))
        self.refused(bench, NotKept, bench.back, "x")

    def test_journal(self):
        stand, refused = 0, 0
        for seed in range(14):
            dice = dice_of(seed)
            book = None if seed % 2 else dice_book(dice)
            bench = Bench(two(), book)
            for _ in range(25):
                if dice.random() < 0.15 and len(bench):
                    bench.undo()
                elif try_deed(bench, deed_by_dice(bench, dice)):
                    stand += 1
                else:
                    refused += 1
            self.as_fresh(bench, two(), book)
        self.assertGreater(stand, 100)
        self.assertGreater(refused, 30)


class WholeBenchTest(BenchCase):

    def test_what_is_handed_out_is_the_callers_own(self):
        bench = Bench(two())
        bench.make("u", [("fold",)], 4)
        bench.begin([1, 2])
        bench.charge(even_book(3))
        bench.arrange(["v", "u"])
        bench.keep("x")
        bench.go(60)
        before = shown(bench)
        for told in (bench.names, bench.inputs, bench.kept, bench.log, bench.ways("u")[0], bench.book, bench.source()[0], bench.told(), bench.profile(),
                     bench.listing("u"), bench.would("u", [], 8)):
            told.clear()
        for deed in bench.log:
            for part in deed[1:]:
                if isinstance(part, (list, dict)):
                    part.clear()
        bench.listing("u")[0][1].append(5)
        bench.machine().go(50)
        self.assertEqual(shown(bench), before)
        self.as_fresh(bench, two())

    def test_copy(self):
        bench = Bench(two(), even_book(2))
        bench.go(9)
        bench.keep("x")
        twin = bench.copy()
        self.assertTrue(twin == bench)
        self.assertEqual(shown(twin), shown(bench))
        before = shown(bench)
        twin.back("x")
        twin.make("v", [("dead",)], 5)
        twin.undo()
        twin.undo()
        twin.undo()
        self.assertEqual(twin.kept, [])
        self.assertEqual(shown(bench), before)
        bench.go(4)
        self.assertEqual(len(twin), 1)
        self.assertFalse(twin == bench)

    def test_equality(self):
        one, other = Bench(two()), Bench(two(), even_book(1))
        self.assertTrue(one == other)
        self.assertFalse(one != other)
        one.go(3)
        self.assertTrue(one != other)
        other.go(3)
        self.assertTrue(one == other)
        # the same moment by other deeds
        other.undo()
        other.go(2)
        other.go(1)
        self.assertEqual(shown_now(one), shown_now(other))
        self.assertFalse(one == other)
        self.assertFalse(Bench(two()) == Bench(two(), even_book(2)))
        self.assertFalse(Bench(two()) == Bench(SMALL))
        for value in ODD_VALUES + (SMALL, []):
            self.assertFalse(one == value)
            self.assertTrue(one != value)
        self.assertRaises(TypeError, iter, one)
        one.begin([1])
        other = Bench(two())
        other.go(3)
        other.begin((1,))
        self.assertTrue(one == other)

    def test_tried(self):
        bench = Bench(two())
        bench.go(5)

        def task(tried):
            self.assertIs(tried, bench)
            tried.begin([4])
            tried.keep("x")
            return tried.log

        self.assertEqual(bench.tried(task), [("go", 5), ("begin", [4]), ("keep", "x")])
        self.assertEqual(bench.kept, ["x"])
        self.assertIsNone(bench.tried(lambda tried: None))
        before = shown(bench)
        for error in (BadSteps, KeyError, RuntimeError, KeyboardInterrupt):
            def failing(tried):
                tried.undo()
                tried.make("u", [], 4)
                tried.keep("y")
                tried.go(30)
                raise error("so")

            with self.assertRaises(error):
                bench.tried(failing)
            self.assertEqual(shown(bench), before)
        self.assertRaises(NoUnit, bench.tried, lambda tried: tried.drop("z"))
        # one in the other
        def outer(tried):
            tried.go(1)
            try:
                tried.tried(failing)
            except KeyboardInterrupt:
                pass
            return len(tried)

        self.assertEqual(bench.tried(outer), len(before[2]) + 1)

    def test_questions_of_units(self):
        bench = Bench(two())
        for value in ODD_VALUES + ("w",):
            for question in (bench.ways, bench.made, bench.listing):
                with self.assertRaises(NoUnit) as caught:
                    question(value)
                self.assertEqual(caught.exception.name, value)

    def test_each_by_itself(self):
        bench = Bench(two())
        bench.put(unit_of(W))
        for seed in range(25):
            dice = dice_of(seed)
            before = {name: bench.made(name) for name in bench.names}
            deed = deed_by_dice(bench, dice)
            if deed[0] in ("put", "make", "arrange", "house") and try_deed(bench, deed):
                changed = deed[1][0] if deed[0] == "put" else deed[1]
                for name in bench.names:
                    units = {unit[0]: unit for unit in bench.program}
                    self.assertEqual(bench.made(name), compiled(units[name], *bench.ways(name)))
                    if name != changed and name in before:
                        self.assertEqual(bench.made(name), before[name])

    def test_arrange_and_house_change_no_clock(self):
        bench = Bench(two(), dice_book(dice_of(8)))
        bench.begin([4])
        bench.go(5000)
        before = machine_shown(bench.machine())[:8]
        bench.arrange(["v", "u"])
        bench.house(300)
        bench.go(5000)
        self.assertEqual(machine_shown(bench.machine())[:8], before)


class ToldTest(BenchCase):

    def ask(self, bench):
        """Asks all facts of clocks told ahead, at this moment."""
        machine = bench.machine()
        found = list(zip(machine.trace(), machine.clocks(), machine.stacks()))
        is_short = machine.trace()[-1:] == [("failed", "room")]
        told = bench.told()
        self.assertEqual(told, found[:-1] if is_short else found)
        trace, stations = bench.source()
        run = Run(bench.program, bench.inputs)
        run.go(len(trace))
        self.assertEqual((run.trace(), run.stations()), (trace, stations))
        objects = [bench.made(name) for name in bench.names]
        self.assertEqual(foretold(objects, bench.book, trace, stations), told)
        if trace:
            # it is the shortest one
            self.assertLess(len(foretold(objects, bench.book, trace[:-1], stations[:-1])), len(told))
        self.ask_profile(bench, told)
        return told

    def ask_profile(self, bench, told):
        profile = bench.profile()
        self.assertEqual(profile, sorted(profile))
        labels = [item[1:] for item, _, _ in told if item[0] == "label"]
        self.assertEqual([row[:3] for row in profile], [label + (labels.count(label),) for label in sorted(set(labels))])
        if told:
            ended = told[-1][0] == ("end",)
            beats = sum(row[3] for row in profile) + bench.book["call"] + (bench.book["halt"] if ended else 0)
            self.assertEqual(beats, told[-1][1])
            tables = {name: prices(bench.made(name), bench.book) for name in bench.names}
            for unit, label, times, beats in profile:
                total = tables[unit][label][2]
                if (unit, label) != labels[-1] or ended:
                    self.assertEqual(beats, times * total)
                else:
                    self.assertTrue((times - 1) * total + tables[unit][label][0] <= beats <= times * total)

    def ask_listing(self, bench):
        for unit in bench.program:
            listing = bench.listing(unit[0])
            self.assertEqual("\n".join(line for line, _ in listing), unit_text(unit))
            table = prices(bench.made(unit[0]), bench.book)
            self.assertEqual(sorted(pair for _, pairs in listing for pair in pairs), [(label, table[label][2]) for label in table])
            for at, (_, pairs) in enumerate(listing):
                self.assertEqual(pairs, sorted(pairs))
                for (f, k, _), _ in pairs:
                    self.assertEqual(label_spots(unit, f)[k][0], at + 1)

    def test_a_run_step_by_step(self):
        bench = Bench(two(), dice_book(dice_of(1)))
        bench.make("v", [("last",)], 4)
        bench.begin([3])
        self.assertEqual((bench.source(), bench.told(), bench.profile()), (([], []), [], []))
        for _ in range(60):
            self.ask(bench)
            bench.go(3)
        bench.go(3000)
        self.assertEqual(bench.machine().state(), "ended")
        self.ask(bench)
        self.ask_listing(bench)

    def test_rooms_that_are_too_small(self):
        bench = Bench(two())
        bench.begin([3])
        failed = 0
        for room in range(8, 90, 3):
            bench.house(room)
            bench.go(3000)
            failed += bench.machine().trace()[-1] == ("failed", "room")
            self.ask(bench)
        self.assertGreater(failed, 5)
        bench.house(8)
        bench.make("u", [], 8)
        bench.go(2)

    def test_by_dice(self):
        for seed in range(20, 32):
            dice = dice_of(seed)
            bench = Bench(two(), dice_book(dice))
            for _ in range(20):
                try_deed(bench, deed_by_dice(bench, dice))
                self.ask(bench)
            self.ask_listing(bench)

    def test_listing(self):
        bench = Bench(SMALL)
        total = prices(bench.made("u"), even_book(1))[0, 0, ()][2]
        lines = unit_text(SMALL[0]).split("\n")
        self.assertEqual(bench.listing("u"), [(line, [((0, 0, ()), total)] if line == "body main" else []) for line in lines])
        bench = Bench(two())
        bench.make("u", [("peel", (0, 1, ()))], 8)
        row = [pairs for line, pairs in bench.listing("u") if line == "  while (i < 3)"][0]
        self.assertEqual([label for label, _ in row], [
            (0, 1, (("first", 0, 1),)), (0, 1, (("later", 0, 1),)), (0, 2, (("first", 0, 1),)), (0, 2, (("later", 0, 1),))])
        self.ask_listing(bench)

    def test_would(self):
        for seed in range(12):
            dice = dice_of(seed)
            bench = Bench(two(), dice_book(dice))
            bench.begin([dice.randrange(10)])
            bench.go(dice.choice((0, 10, 40, 100, 3000)))
            deed = ("go",)
            while deed[0] != "make" or deed[1] == "w" or deed[3] < 3:
                deed = deed_by_dice(bench, dice)
            before = shown(bench)
            told = bench.would(*deed[1:])
            self.assertEqual(shown(bench), before)
            self.assertEqual([row[:2] for row in told], [row[:2] for row in bench.told() if row[0][0] != "label"])
            bench.make(*deed[1:])
            bench.go(20000)
            machine = bench.machine()
            found = [pair for pair in zip(machine.trace(), machine.clocks()) if pair[0][0] != "label"]
            self.assertEqual(found[:len(told)], [(item, other) for item, _, other in told])

    def test_would_is_refused(self):
        bench = Bench(two())
        for value in ODD_VALUES:
            self.refused(bench, NoUnit, bench.would, value, None, None)
        self.refused(bench, BadPasses, bench.would, "u", None, None)
        self.refused(bench, NotHere, bench.would, "u", [("lay", (0, 1, ()))], None)
        self.refused(bench, BadRegisters, bench.would, "u", [], 2)
        self.assertEqual(bench.would("u", [], 8), [])

    def test_too_long(self):
        # empty calls laid in: hundreds of items in a round of few steps
        calls = "\n".join("    call a()" for _ in range(10))
        inner = "\n".join("  call b()" for _ in range(12))
        unit = unit_of(f"unit u size 10\nfunction main()\nfunction a()\nfunction b()\nbody main\n  while yes\n{calls}\nbody a\n{inner}\nbody b")
        bench = Bench((unit,))
        words = [("lay", (1, k, ())) for k in range(1, 13)] + [("lay", (0, k, ())) for k in range(3, 13)]
        bench.make("u", words, 8)
        bench.go(200)
        self.assertGreater(len(bench.machine().trace()), 10000)
        self.assertEqual(len(bench.told()), len(bench.machine().trace()))
        bench.go(1500)
        self.assertGreater(len(bench.machine().trace()), 100000)
        for question in (bench.source, bench.told, bench.profile):
            with self.assertRaises(TooLong) as caught:
                question()
            self.assertEqual(caught.exception.most, 100000)
        with self.assertRaises(TooLong) as caught:
            bench.would("u", [], 8)
        self.assertEqual(caught.exception.most, 100000)
        # the errors of make come first
        self.assertRaises(BadRegisters, bench.would, "u", [], 2)
        self.assertTrue(bench.listing("u"))

    def test_calls_in_last_place(self):
        # their ways back have no marks, so the source is longer than what the machine shows
        bench = Bench(two())
        bench.make("v", [("last",)], 8)
        bench.begin([3])
        bench.go(3000)
        told = self.ask(bench)
        self.assertGreater(len(bench.source()[0]), len(told))


if __name__ == "__main__":
    unittest.main()
