"""[70], [71]: the machine's clock told in the source."""

import unittest

from labelclocks.books import even_book
from labelclocks.clocks import foretold
from labelclocks.compiling import compiled
from labelclocks.errors import BadBook, BadObjects, BadTrace, NotLed
from labelclocks.linking import linked
from labelclocks.machine import Machine
from labelclocks.meaning import Run
from labelclocks.prices import prices
from labelclocks.readtexts import program_of
from tests.checks import ODD_VALUES
from tests.compile import dice_book, machine_of, objects_by_dice, shown, two
from tests.makers import dice_of, make_program
from tests.test_led import SHOW
from tests.test_linking import cells_of, thing


def run_of(program, inputs, many=1500):
    run = Run(program, inputs)
    run.go(many)
    return run


def told_of(objects, book, run):
    return foretold(objects, book, run.trace(), run.stations())


class HeartTest(unittest.TestCase):

    def ask(self, program, objects, dice, counts, steps=6000):
        """Asks the machine and the told clock alike, in an order and with a book that dice tell."""
        inputs = [dice.randrange(10000) for _ in range(dice.randrange(9))]
        book = dice_book(dice)
        order = dice.sample(objects, len(objects))
        machine = machine_of(order, program[0][0], inputs, book, steps, 20000, dice.random() < 0.5)
        run = run_of(program, inputs)
        told, found = told_of(objects, book, run), shown(machine)
        is_short = found[-1][0] == ("failed", "room")
        counts["room" if is_short else machine.state()] += 1
        many = min(len(told), len(found) - is_short)
        self.assertEqual(found[:many], told[:many])
        stations = [station for item, station in zip(run.trace(), run.stations()) if item[0] != "label"]
        seen = [station for item, station in zip(machine.trace(), machine.stations()) if item[0] != "label"]
        least = min(len(stations), len(seen) - is_short)
        self.assertEqual(seen[:least], stations[:least])
        if machine.state() != "running" and not is_short and run.state() != "running":
            self.assertEqual(found, told)
            self.assertEqual(machine.beats(), told[-1][1])
        return told

    def test_programs_by_dice(self):
        counts = {"ended": 0, "failed": 0, "running": 0, "room": 0}
        for seed in range(90):
            dice = dice_of(seed)
            program = make_program(dice, nodes=70, most_units=4)
            for many in (0, 6):
                self.ask(program, objects_by_dice(dice, program, many), dice, counts)
        self.assertGreater(min(counts["ended"], counts["running"]), 20, counts)
        self.assertGreater(counts["failed"], 2)

    def test_calls_across_units(self):
        program = two()
        counts = {"ended": 0, "failed": 0, "running": 0, "room": 0}
        for seed in range(40):
            dice = dice_of(seed)
            objects = objects_by_dice(dice, program, 9)
            if seed % 2:
                objects[1] = compiled(program[1], [("fold",), ("last",), ("dead",)], 3 + seed % 6)
            self.ask(program, objects, dice, counts)
        self.assertGreater(min(counts["ended"], counts["failed"]), 5, counts)

    def test_wherever_the_run_is_cut(self):
        program = two()
        words = ([], [("last",)], [("lay", (0, 3, ())), ("peel", (0, 1, ())), ("fold",), ("dead",), ("thread",)])
        for first in (words[0], words[1], words[2]):
            objects = [compiled(program[0], first), compiled(program[1], words[1], 4)]
            book = dice_book(dice_of(4))
            run = run_of(program, [3, 1])
            whole = told_of(objects, book, run)
            trace, stations = run.trace(), run.stations()
            for many in range(len(trace) + 1):
                told = foretold(objects, book, trace[:many], stations[:many])
                self.assertEqual(told, whole[:len(told)])
            machine = Machine(linked(objects, "u", 2000), [3, 1], book)
            for _ in range(400):
                machine.go(1)
                found = shown(machine)
                self.assertEqual(found, whole[:len(found)])

    def test_deep_calls(self):
        text = "unit u size 10000\nfunction main()\nfunction f(worth n number) number\nbody main\n  local x number\n"
        text += "  x = call f(3000)\n  show 0 x\nbody f\n  local y number\n  if (n = 0)\n    give 7\n  y = call f((n - 1))\n  give y"
        program = program_of(text)
        run = run_of(program, [], 20000)
        self.assertEqual(run.state(), "ended")
        for words in ((), [("last",)], [("copies",), ("last",)]):
            objects = [compiled(program[0], words)]
            told = told_of(objects, even_book(3), run)
            machine = machine_of(objects, "u", [], even_book(3), 200000)
            found = shown(machine)
            if machine.trace()[-1] == ("failed", "room"):
                found.pop()
                told = told[:len(found)]
            self.assertEqual(found, told)
            # calls in last place leave no way back, and no frame
            backs = [item for item, _, _ in told if item[0] == "label" and item[2] == (1, 3, ())]
            self.assertEqual(len(backs) == 0, words != () or machine.state() == "failed")

    def test_a_room_too_small(self):
        short = 0
        for seed in range(6):
            dice = dice_of(seed)
            program = two()
            objects = objects_by_dice(dice, program)
            book = even_book(2)
            run = run_of(program, [5, 2])
            told = told_of(objects, book, run)
            frames = {(made[1], f): function[3] for made in objects for f, function in enumerate(made[6])}
            for room in range(8, 120):
                machine = machine_of(objects, "u", [5, 2], book, 20000, room)
                found = shown(machine)
                wanted = told
                for at, (item, clock, stack) in enumerate(told):
                    if item[0] == "label" and item[2][1:] == (0, ()) and stack + frames[item[1], item[2][0]] + 6 > room:
                        wanted = told[:at] + [(("failed", "room"), clock, stack)]
                        short += 1
                        break
                self.assertEqual(found, wanted, room)
        self.assertGreater(short, 40)

    def test_the_sum_of_prices(self):
        program = program_of("unit u size 10\nfunction main()\nbody main\n  local x number\n  ask x\n  show 1 (x + 1)")
        book = dice_book(dice_of(2))
        made = compiled(program[0])
        lead, stations, total = prices(made, book)[0, 0, ()]
        run = run_of(program, [14])
        self.assertEqual(told_of([made], book, run), [
            (("label", "u", (0, 0, ())), book["call"] + lead, 2), (("asked", 4), book["call"] + stations[0][1], 2),
            (("shown", 1, 5), book["call"] + stations[1][1], 2), (("end",), book["call"] + total + book["halt"], 0)])

    def test_numbers_do_not_count(self):
        program = two()
        objects = [compiled(unit) for unit in program]
        run = run_of(program, [3])
        other = [item[:-1] + (0,) if item[0] in ("asked", "shown") else item for item in run.trace()]
        told = foretold(objects, even_book(5), other, run.stations())
        self.assertEqual([triple[1:] for triple in told], [triple[1:] for triple in told_of(objects, even_book(5), run)])


class ErrorsTest(unittest.TestCase):

    def setUp(self):
        self.program = two()
        self.objects = [compiled(unit) for unit in self.program]
        self.book = even_book(1)
        run = run_of(self.program, [4, 4])
        self.trace, self.stations = run.trace(), run.stations()

    def bad(self, trace, stations, objects=None):
        self.assertRaises(BadTrace, foretold, objects or self.objects, self.book, trace, stations)

    def test_in_order(self):
        bare = thing(functions=(("main", cells_of(0, SHOW)),))
        for value in ODD_VALUES + ([], self.objects[0], self.objects * 4):
            self.assertRaises(BadObjects, foretold, value, None, None, None)
        for value in ODD_VALUES:
            self.assertRaises(BadBook, foretold, [bare], value, None, None)
        self.assertRaises(NotLed, foretold, [self.objects[0], bare], self.book, None, None)
        for value in ODD_VALUES:
            if value not in ([], ()):
                self.bad(value, self.stations)
                self.bad(self.trace, value)
        self.assertEqual(foretold(self.objects, self.book, [], []), [])
        self.assertEqual(foretold(objects=tuple(self.objects), book=self.book, trace=(), stations=()), [])

    def test_lists_of_equal_length(self):
        self.bad(self.trace, self.stations[:-1])
        self.bad(self.trace[:-1], self.stations)
        self.bad([], [None])

    def test_forms(self):
        for at in (0, 1, 5, len(self.trace) - 1):
            for item in (None, [], list(self.trace[at]), (), ("end", 1), ("ended",), ("asked",), ("asked", "x"), ("asked", True), ("asked", -1),
                         ("shown", 1), ("shown", 6, 1), ("shown", -1, 1), ("shown", True, 1), ("shown", 1, None), ("failed",), ("failed", "room"),
                         ("failed", 10), ("failed", None), ("label",), ("label", ("u", 0)), ("label", None), ("label", "u", (0, 0, ())), "end", 1,
                         ("label", ["u", 0, 0]), ("asked", 3, 3), ({},), ("label", ("u", False, 0))):
                self.bad(self.trace[:at] + [item] + self.trace[at + 1:], self.stations)

    def test_a_label_comes_first(self):
        at = [item[0] for item in self.trace].index("asked")
        self.bad(self.trace[at:], self.stations[at:])
        self.bad([("end",)], [None])
        self.assertEqual(len(foretold(self.objects, self.book, [("label", ("u", 2, 0))], [None])), 1)

    def test_labels_that_cannot_follow(self):
        labels = [at for at, item in enumerate(self.trace) if item[0] == "label"]
        for at in labels:
            self.bad(self.trace[:at] + [("label", ("u", 0, 9))] + self.trace[at + 1:], self.stations)
            self.bad(self.trace[:at] + [("label", ("x", 0, 0))] + self.trace[at + 1:], self.stations)
        self.bad(self.trace[:3] + self.trace[4:] if self.trace[3][0] == "label" else self.trace[:1] * 2, [None] * 2)
        self.bad([("label", ("u", 0, 0)), ("label", ("u", 0, 0))], [None, None])
        # a door of another function comes, where a use is called
        self.assertTrue(foretold(self.objects, self.book, [("label", ("v", 1, 0)), ("label", ("v", 2, 0))], [None, None]))

    def test_labels_without_marks(self):
        run = run_of(self.program, [4])
        told = run.trace(), run.stations()
        for k, cells in enumerate(self.objects[0][6][0][4]):
            if cells[0] == "mark" and cells[1][1] > 0:
                # one mark bears another way, so it is that of no label of the run
                function = self.objects[0][6][0]
                other = function[4][:k] + (("mark", cells[1][:2] + ((("at", 5, 5),),)),) + function[4][k + 1:]
                made = self.objects[0][:6] + ((function[:4] + (other,),) + self.objects[0][6][1:],) + self.objects[0][7:]
                is_met = ("label", ("u", 0, cells[1][1])) in told[0]
                if is_met:
                    self.bad(told[0], told[1], [made, self.objects[1]])
                else:
                    self.assertTrue(foretold([made, self.objects[1]], self.book, told[0], told[1]))

    def test_stations(self):
        for at, item in enumerate(self.trace):
            if item[0] in ("asked", "shown", "failed"):
                station = self.stations[at]
                for value in (None, station[1:], list(station), ("v",) + station[1:], station[:2] + (99,), (station[0], False, station[2]),
                              station[:1] + (5,) + station[2:], ()):
                    if value != station:
                        self.bad(self.trace, self.stations[:at] + [value] + self.stations[at + 1:])
            else:
                # of labels and the end none is asked for
                self.assertTrue(foretold(self.objects, self.book, self.trace, self.stations[:at] + [7] + self.stations[at + 1:]))


if __name__ == "__main__":
    unittest.main()
