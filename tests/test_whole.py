"""[1], [2], [90]: all roads tell the same."""

import unittest

from labelclocks.bounds import between, gap
from labelclocks.clocks import foretold
from labelclocks.compiling import compiled
from labelclocks.errors import NoRoad
from labelclocks.frames import placed
from labelclocks.imagewebs import web_of
from labelclocks.judging import judge
from labelclocks.linking import linked, store_at
from labelclocks.machine import Machine
from labelclocks.meaning import Run
from labelclocks.needs import needed
from labelclocks.objects import same_face
from labelclocks.ownpapers import paper_of
from labelclocks.papers import is_priced, priced
from labelclocks.passes import chosen
from labelclocks.prices import prices
from labelclocks.readtexts import program_of, unit_of
from tests.compile import TWO, dice_book, shown, two
from tests.heart import does_as_source, made_by_dice
from tests.makers import dice_of, make_program


class WholeTest(unittest.TestCase):

    def ask(self, program, dice, counts):
        """Asks the run, the rows, the machine and the told clock alike, for words and registers that dice tell."""
        inputs = [dice.randrange(10000) for _ in range(dice.randrange(7))]
        words = {unit[0]: made_by_dice(dice, unit, dice.randrange(7))[2] for unit in program}
        made = [chosen(unit, words[unit[0]]) for unit in program]
        does_as_source(self, program, made, inputs, [1, 5, 30, 400])
        objects = [compiled(unit, words[unit[0]], dice.randint(3, 8)) for unit in program]
        order = dice.sample(objects, len(objects))
        book = dice_book(dice)
        main = program[0][0]
        machine = Machine(linked(order, main, 20000, dice.random() < 0.5), inputs, book)
        machine.go(20000)
        run = Run(program, inputs)
        run.go(1500)
        told = foretold(objects, book, run.trace(), run.stations())
        found = shown(machine)
        is_short = found[-1][0] == ("failed", "room")
        many = min(len(found) - is_short, len(told))
        self.assertEqual(found[:many], told[:many])
        counts[machine.state()] += 1
        if machine.state() != "running" and not is_short and run.state() != "running":
            self.assertEqual(found, told)
            self.assertEqual((machine.state(), machine.left()), (run.state(), run.left()))
            for unit in program:
                for x, _ in unit[3]:
                    cells = run.cells(unit[0], x)
                    first = store_at(order, unit[0], x)
                    self.assertEqual([machine.word(first + at) for at in range(len(cells))], cells)
        return objects, order, book, machine

    def test_programs_by_dice(self):
        counts = {"ended": 0, "failed": 0, "running": 0}
        for seed in range(100, 150):
            dice = dice_of(seed)
            program = make_program(dice, nodes=60, most_units=4)
            self.ask(program, dice, counts)
        self.assertGreater(min(counts["ended"], counts["running"]), 5, counts)

    def test_several_units(self):
        counts = {"ended": 0, "failed": 0, "running": 0}
        for seed in range(30):
            self.ask(two(), dice_of(seed), counts)
        self.assertGreater(min(counts["ended"], counts["failed"]), 2, counts)

    def test_bounds_rooms_and_prices_of_the_image(self):
        counts = {"ended": 0, "failed": 0, "running": 0}
        for seed in range(200, 225):
            dice = dice_of(seed)
            program = two() if seed % 5 == 0 else make_program(dice, nodes=50, most_units=3)
            objects, order, book, machine = self.ask(program, dice, counts)
            main = program[0][0]
            room = needed(objects, main)
            if room[0] == "room" and 8 <= room[1] <= 20000:
                less = Machine(linked(order, main, room[1]), [], book)
                less.go(3000)
                self.assertNotEqual(less.trace()[-1:], [("failed", "room")])
            try:
                few, many = between(objects, main, book)
                if machine.state() == "ended":
                    self.assertTrue((few is None or few <= machine.beats()) and (many is None or machine.beats() <= many))
                self.assertEqual(gap(objects, order, main, book), 0)
            except NoRoad:
                self.assertNotEqual(machine.state(), "ended")
            web, _, marks = web_of(linked(order, main, 2000), book)
            tables = {made[1]: prices(made, book) for made in objects}
            told = priced(web)
            self.assertEqual(told[:2], ("prices", 1))
            own = (book["call"] + book["halt"],) + tuple(tables[unit][label][2] for unit, label in marks[1:])
            # the prices of labels are among them: they are these and a whole sum of shifts
            left = [a - b for a, b in zip(own, told[2])]
            for shift in told[4]:
                pivot = [at for at, number in enumerate(shift) if number][0]
                left = [a - left[pivot] // shift[pivot] * b for a, b in zip(left, shift)]
            self.assertFalse(any(left))
            self.assertIs(is_priced(web, told[1], told[2], told[3]), True)

    def test_placings_are_judged(self):
        for unit in two():
            rows, _ = chosen(unit, [("fold",), ("copies",), ("dead",)])
            for registers in (3, 8):
                for f, placing in enumerate(placed(rows, registers)):
                    self.assertIsNone(judge(rows, f, registers, placing, paper_of(rows, f, registers)))
                    self.assertEqual(compiled(unit, [("fold",), ("copies",), ("dead",)], registers)[6][f][3:], placing[::-1])


class ExchangeTest(unittest.TestCase):

    def ask(self, program, other_program, objects, others, changed, inputs):
        """Asks whether clocks differ by the prices of one unit's labels alone."""
        book = dice_book(dice_of(7))
        run, other_run = Run(program, inputs), Run(other_program, inputs)
        run.go(2000)
        other_run.go(2000)
        self.assertEqual(run.trace(), other_run.trace())
        told = foretold(objects, book, run.trace(), run.stations())
        other = foretold(others, book, other_run.trace(), other_run.stations())
        tables = [{made[1]: prices(made, book) for made in things} for things in (objects, others)]
        more, last = 0, None
        self.assertEqual([triple[0] for triple in told], [triple[0] for triple in other])
        stations = iter([s for item, s in zip(run.trace(), run.stations()) if item[0] != "label"])
        for (item, clock, _), (_, other_clock, _) in zip(told, other):
            if item[0] == "label":
                if last is not None and last[0] == changed:
                    more += tables[1][last[0]][last[1]][2] - tables[0][last[0]][last[1]][2]
                last = item[1:]
                own = tables[1][last[0]][last[1]][0] - tables[0][last[0]][last[1]][0]
            else:
                station = next(stations)
                at = 2 if item == ("end",) else 1
                one, two_prices = tables[0][last[0]][last[1]], tables[1][last[0]][last[1]]
                own = two_prices[2] - one[2] if at == 2 else dict(two_prices[1])[station[1:]] - dict(one[1])[station[1:]]
            if last[0] != changed:
                self.assertEqual(own, 0)
            self.assertEqual(other_clock - clock, more + own)
        return other[-1][1] - told[-1][1]

    def test_compiled_in_another_way(self):
        program = two()
        one = [compiled(unit) for unit in program]
        for words, registers in (([("fold",), ("dead",)], 8), ([("copies",), ("twice",), ("thread",)], 3), ([], 4)):
            for at in (0, 1):
                other = list(one)
                other[at] = compiled(program[at], words, registers)
                self.assertIs(same_face(one[at], other[at]), True)
                self.ask(program, program, one, other, "uv"[at], [3])

    def test_a_unit_whose_bodies_do_the_same(self):
        program = two()
        text = TWO[TWO.index("unit v"):].replace("k = (k + 1)", "k = ((k + 2) - (3 over 2))").replace("t = (t + k)", "t = (k + t)")
        other_program = (program[0], unit_of(text))
        self.assertNotEqual(other_program, program)
        one, other = [compiled(unit) for unit in program], [compiled(unit) for unit in other_program]
        self.assertEqual(one[0], other[0])
        for inputs in ([3], [1], [4, 2]):
            self.ask_same_stations(program, other_program, one, other, inputs)

    def ask_same_stations(self, program, other_program, one, other, inputs):
        """As ask, of units whose stations have other numbers."""
        book = dice_book(dice_of(3))
        runs = [Run(program, inputs), Run(other_program, inputs)]
        for run in runs:
            run.go(2000)
        self.assertEqual(runs[0].trace(), runs[1].trace())
        told = [foretold(things, book, run.trace(), run.stations()) for things, run in zip((one, other), runs)]
        tables = [prices(things[1], book) for things in (one, other)]
        self.assertEqual([triple[0] for triple in told[0]], [triple[0] for triple in told[1]])
        labels = [item for item, _, _ in told[0] if item[0] == "label" and item[1] == "v"]
        more = sum(tables[1][label][2] - tables[0][label][2] for _, _, label in labels)
        if runs[0].state() == "ended":
            self.assertEqual(told[1][-1][1] - told[0][-1][1], more)

    def test_what_a_unit_becomes_hangs_on_it_alone(self):
        program = two()
        other = program_of(TWO.replace("show 0 x", "show 0 (x * x)"))
        self.assertNotEqual(program[0], other[0])
        self.assertEqual(compiled(program[1], [("fold",)], 5), compiled(other[1], [("fold",)], 5))


if __name__ == "__main__":
    unittest.main()
