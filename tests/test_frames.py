"""[53] to [55]: words of frames, places of temps, placed code, and what the machine makes of it."""

import unittest

from labelclocks.books import WORDS, even_book
from labelclocks.cells import is_cell
from labelclocks.clashes import across, clashes, core, held_temps
from labelclocks.errors import BadFunction, BadRegisters, BadRows, BadSlot, TooLarge
from labelclocks.frames import area, placed, places
from labelclocks.images import is_image
from labelclocks.judging import is_placing
from labelclocks.lowering import lowered
from labelclocks.machine import Machine
from labelclocks.readtexts import program_of
from labelclocks.rowruns import RowRun
from tests.checks import ODD_VALUES
from tests.heart import made_by_dice
from tests.link import is_led, link
from tests.madecode import make_rows
from tests.makers import dice_of, make_program
from tests.test_copying import reached
from tests.test_lowering import WHOLE
from tests.test_rowruns import GIVE, S, code, main, rows_of, show

NUMBER = ("worth", "number")
PLACE = ("place", "number")


def ask_places(test, rows, f, registers):
    """Asks places all that [53] tells of them."""
    told = places(rows, f, registers)
    params, slots = len(rows[5][f][1]), sum(rows[5][f][3])
    test.assertEqual(list(told), list(held_temps(rows, f)))
    pairs = clashes(rows, f)
    for t, u in pairs:
        test.assertNotEqual(told[t], told[u])
    in_words = [t for t in told if told[t][0] == "word"]
    far = [t for t in in_words if t >= params]
    lasting, kernel = across(rows, f), core(rows, f, registers)
    test.assertLessEqual(set(lasting), set(in_words))
    test.assertLessEqual(set(in_words), set(lasting) | set(kernel))
    for t in told:
        if told[t][0] == "register":
            test.assertTrue(0 <= told[t][1] < registers)
        elif t < params:
            test.assertEqual(told[t][1], t)
        else:
            test.assertGreaterEqual(told[t][1], params + slots)
    many = {t: len([1 for pair in pairs if t in pair and set(pair) <= set(far)]) for t in far}
    words = {told[t] for t in far}
    test.assertLessEqual(len(words), 1 + max(many.values()) if far else 0)
    return told, 1 + max([told[t][1] for t in in_words] + [params + slots - 1])


def ask_placed(test, rows, registers):
    """Asks placed all that [54] tells of it, but what the cells do."""
    told = placed(rows, registers)
    test.assertIsInstance(told, list)
    test.assertEqual(len(told), len(rows[5]))
    for f, (cells, frame) in enumerate(told):
        test.assertTrue(is_placing(rows, f, registers, told[f]))
        test.assertTrue(all(is_cell(cell, rows[2], registers, len(cells)) for cell in cells))
        test.assertEqual(cells[:2], (("room", frame), ("mark", rows[5][f][4][0][0])))
        test.assertGreaterEqual(frame, ask_places(test, rows, f, registers)[1])
        blocks = [rows[5][f][4][at] for at in reached(rows[5][f][4])]
        marks = sorted(block[0] for block in blocks if block[0] is not None)
        test.assertEqual(sorted(cell[1] for cell in cells if cell[0] == "mark"), marks)
        endings = [block[2] for block in blocks]
        for word, cell_word in (("test", "unless"), ("call", "call"), ("last", "last"), ("give", "return"), ("fail", "fail")):
            many = len([1 for ending in endings if ending[0] == word])
            test.assertEqual(len([1 for cell in cells if cell[0] == cell_word]), many)
        test.assertEqual(
            sorted(cell[1] for cell in cells if cell[0] == "call"),
            sorted(ending[2] for ending in endings if ending[0] == "call"))
        test.assertEqual({cell[2] for cell in cells if cell[0] == "call"} - {frame}, set())
        test.assertEqual([cell[1] for cell in cells if cell[0] == "room"], [frame])
        test.assertTrue(is_led(cells))
        steps = sum(len(block[1]) for block in rows[5][f][4])
        test.assertLessEqual(len(cells), 4 * steps + 12 * len(rows[5][f][4]) + 100)
    return told


def runs_alike(test, all_rows, placings, registers, inputs, book, items=150, room=20000, order=None):
    """Asks the machine of placed rows and the run of the rows alike; tells the machine's state."""
    image = link(all_rows, placings, registers, room, order)
    test.assertTrue(is_image(image))
    machine, run = Machine(image, inputs, book), RowRun(all_rows, inputs)
    frames = {(rows[1], f): one[1] for rows, told in zip(all_rows, placings) for f, one in enumerate(told)}
    heights = []
    for _ in range(items):
        run.go(1)
        if run.state() == "ended" and len(heights) < len(run.trace()):
            heights.append(0)
        elif len(heights) < len(run.trace()):
            heights.append(2 + sum(frames[call] + 2 for call in run.calls()[:-1]))
    trace, stations = run.trace(), run.stations()
    if trace[-1] == ("failed", "astray"):
        trace.pop()
        stations.pop()
    machine.reach(len(trace), 100000)
    many = len(trace)
    if machine.state() == "failed" and machine.trace()[-1] == ("failed", "room"):
        many = len(machine.trace()) - 1
    test.assertEqual(machine.trace()[:many], trace[:many])
    test.assertEqual(machine.stations()[:many], stations[:many])
    test.assertEqual(machine.stacks()[:many], heights[:many])
    if machine.state() != "running" and many == len(run.trace()):
        test.assertEqual((machine.state(), machine.left()), (run.state(), run.left()))
    return machine.state()


class AreaTest(unittest.TestCase):

    def test_areas(self):
        f = code("f", (0, GIVE), params=(NUMBER, PLACE), slots=(3, 1, 400))
        rows = rows_of(code("main", (0, GIVE), slots=(5, 6)), f)
        self.assertEqual([area(rows, 0, i) for i in range(2)], [0, 5])
        self.assertEqual([area(rows, 1, i) for i in range(3)], [2, 5, 6])

    def test_errors_in_order(self):
        rows = main(slots=(3,))
        for value in ODD_VALUES:
            self.assertRaises(BadRows, area, value, None, None)
        self.assertRaises(BadFunction, area, rows, 1, None)
        for i in (1, -1, None, False, "0", 10 ** 99):
            self.assertRaises(BadSlot, area, rows, 0, i)
        self.assertRaises(BadSlot, area, main(), 0, 0)


class PlacesTest(unittest.TestCase):

    def test_registers(self):
        rows = main(("const", 1, 1), ("const", 2, 2), ("plus", 3, 1, 2), show(3))
        for registers in range(4, 9):
            told, _ = ask_places(self, rows, 0, registers)
            self.assertEqual({place[0] for place in told.values()}, {"register"})
        # three registers leave one at least, so of two that clash one may lie in a word
        ask_places(self, rows, 0, 3)

    def test_temps_across_calls_have_words(self):
        f = code("f", (0, ("give", 0)), params=(NUMBER,), result="number")
        blocks = (
            (0, ("call", 3, ("own", 1), (1,), 1), ("const", 1, 1), ("const", 2, 2)), (1, GIVE, show(2), show(3)))
        rows = rows_of(code("main", *blocks, slots=(4, 2)), f)
        told, _ = ask_places(self, rows, 0, 8)
        self.assertEqual(told, {1: told[1], 2: ("word", 6), 3: told[3]})
        self.assertEqual({told[1][0], told[3][0]}, {"register"})

    def test_params_have_their_number(self):
        blocks = (
            (0, ("call", None, ("own", 0), (), 1), ("const", 7, 1)), (1, GIVE, show(1), ("load", 8, 2), show(7), show(8)))
        f = code("f", *blocks, params=(NUMBER, NUMBER, PLACE), slots=(10,))
        rows = rows_of(code("main", (0, GIVE)), f)
        told, _ = ask_places(self, rows, 1, 8)
        self.assertEqual([told[t] for t in (1, 2, 7)], [("word", 1), ("word", 2), ("word", 13)])
        self.assertNotIn(0, told)

    def test_words_are_shared(self):
        # two temps across calls one behind the other, which do not clash
        blocks = (
            (0, ("call", None, ("own", 0), (), 1), ("const", 1, 1)),
            (1, ("call", None, ("own", 0), (), 2), show(1), ("const", 2, 2)), (2, GIVE, show(2)))
        told, _ = ask_places(self, rows_of(code("main", *blocks)), 0, 5)
        self.assertEqual(told, {1: ("word", 0), 2: ("word", 0)})

    def test_temps_that_copies_join_lie_in_one_place(self):
        # so nothing is moved, not even what a call gives and what is given
        f = code("f", (0, ("call", 5, ("own", 1), (3,), 1), ("copy", 3, 0), ("copy", 3, 3)),
                 (1, ("give", 7), ("copy", 6, 5), ("copy", 7, 6)), params=(NUMBER,), result="number")
        rows = rows_of(code("main", (0, GIVE)), f)
        for registers in range(3, 9):
            told, _ = ask_places(self, rows, 1, registers)
            self.assertEqual({told[t] for t in (5, 6, 7)}, {("register", 0)})
            self.assertEqual(told[0], told[3])
            words = [cell[0] for cell in placed(rows, registers)[1][0]]
            self.assertEqual(words, ["room", "mark", "get", "keep", "call", "mark", "return"])

    def test_errors_in_order(self):
        rows = main()
        for value in ODD_VALUES:
            self.assertRaises(BadRows, places, value, None, None)
            self.assertRaises(BadRows, placed, value, None)
        self.assertRaises(BadFunction, places, rows, 1, None)
        for registers in (2, 9, None, True, "3", -1):
            self.assertRaises(BadRegisters, places, rows, 0, registers)
            self.assertRaises(BadRegisters, placed, rows, registers)


class PlacedTest(unittest.TestCase):

    def test_form(self):
        for seed in range(40):
            rows = make_rows(dice_of(seed), blocks=6)
            ask_placed(self, rows, 3 + seed % 6)

    def test_the_smallest_code(self):
        self.assertEqual(placed(main(), 3), [((("room", 0), ("mark", (0, 0, ())), ("return",)), 0)])

    def test_blocks_that_are_not_met(self):
        rows = rows_of(code(
            "main", (0, GIVE), (1, ("test", 1, 2, 3), ("const", 1, 1)), (2, ("call", None, ("own", 0), (), 4)), (3, GIVE),
            (4, ("fail", 1, S))))
        self.assertEqual(placed(rows, 5), [((("room", 0), ("mark", (0, 0, ())), ("return",)), 0)])

    def test_too_many_words_of_a_frame(self):
        for slots, params, is_large in (((400,) * 10, (), False), ((400,) * 10, (NUMBER,), True), ((400,) * 10 + (1,), (), True),
                                        ((400,) * 9 + (399,), (NUMBER,), False)):
            rows = rows_of(code("main", (0, GIVE)), code("f", (0, GIVE), slots=slots, params=params))
            if is_large:
                self.assertRaises(TooLarge, placed, rows, 8)
            else:
                self.assertEqual(ask_placed(self, rows, 8)[1][1], 4000)
        # a word for each of two temps across a call that clash
        steps = (("const", 1, 1), ("const", 2, 2))
        for slots in ((400,) * 9 + (398,), (400,) * 9 + (399,)):
            blocks = ((0, ("call", None, ("own", 0), (), 1)) + steps, (1, GIVE, show(1), show(2)))
            rows = rows_of(code("main", *blocks, slots=slots))
            if sum(slots) == 3998:
                self.assertEqual(placed(rows, 4)[0][1], 4000)
            else:
                self.assertRaises(TooLarge, placed, rows, 4)

    def test_too_many_cells(self):
        # each show is a cell, whatever is done
        for many in (7997, 7999):
            rows = main(("const", 1, 1), *[show(1)] * many)
            self.assertRaises(TooLarge, placed, rows, 8)
        rows = main(("const", 1, 1), *[show(1)] * 7996)
        self.assertEqual(len(ask_placed(self, rows, 8)[0][0]), 8000)

    def test_code_that_is_surely_not_too_large(self):
        # all temps lie in words: they live across a call, and each step wants four cells at most
        ahead = tuple(("const", t, t % 10) for t in range(1, 101))
        plus = tuple(("plus", 1 + k % 100, 1 + (k * 7 + 3) % 100, 1 + (k * 31 + 5) % 100) for k in range(1755))
        blocks = (
            (0, ("call", None, ("own", 1), (), 1)) + ahead + plus, (1, GIVE) + tuple(show(t) for t in range(1, 101)))
        rows = rows_of(code("main", *blocks), code("f", (0, GIVE)))
        self.assertLessEqual(4 * 1955 + 24, 7900)
        for registers in (3, 8):
            told = ask_placed(self, rows, registers)
            self.assertGreater(len(told[0][0]), 4000)
            runs_alike(self, [rows], [told], registers, [], even_book(1))


class HeartTest(unittest.TestCase):

    def book(self, dice):
        book = {word: dice.randint(1, 99) for word in WORDS}
        book.update({"taken": dice.randint(0, 99), "wait": dice.randint(0, 99)})
        return book

    def test_rows_made_by_dice(self):
        states = {"ended": 0, "failed": 0, "running": 0}
        for seed in range(140):
            dice = dice_of(seed)
            rows = make_rows(dice, size=dice.choice((2, 10, 100)))
            for registers in (3, dice.randint(4, 8)):
                inputs = [dice.randrange(100) for _ in range(6)]
                state = runs_alike(self, [rows], [placed(rows, registers)], registers, inputs, self.book(dice), 60)
                states[state] += 1
        self.assertGreater(min(states.values()), 30, states)

    def test_programs_behind_passes(self):
        for seed in range(40):
            dice = dice_of(seed)
            program = make_program(dice, nodes=70)
            all_rows = [made_by_dice(dice, unit, dice.randrange(6))[0] for unit in program]
            registers = dice.randint(3, 8)
            placings = [ask_placed(self, rows, registers) for rows in all_rows]
            inputs = [dice.randrange(10000) for _ in range(dice.randrange(9))]
            order = dice.sample(range(len(all_rows)), len(all_rows))
            runs_alike(self, all_rows, placings, registers, inputs, self.book(dice), 150, 20000, order)

    def test_each_unit_by_registers_of_its_own(self):
        program = program_of(WHOLE)
        all_rows = [lowered(unit) for unit in program]
        for one, other in ((3, 8), (8, 3), (4, 5)):
            placings = [placed(all_rows[0], one), placed(all_rows[1], other)]
            for inputs in ([5, 1, 2], [9, 4], [1], []):
                runs_alike(self, all_rows, placings, max(one, other), inputs, even_book(2))

    def test_a_room_too_small(self):
        program = program_of(WHOLE)
        all_rows = [lowered(unit) for unit in program]
        placings = [placed(rows, 4) for rows in all_rows]
        failed = 0
        for room in range(8, 300, 3):
            state = runs_alike(self, all_rows, placings, 4, [12, 1, 2], even_book(1), 100, room)
            failed += state == "failed"
        self.assertGreater(failed, 20)

    def test_args_that_change_places(self):
        # last calls hand on their own params in all orders
        for order in ((1, 0, 2, 3), (1, 2, 3, 0), (3, 2, 1, 0), (1, 0, 3, 2), (0, 0, 1, 1), (2, 2, 0, 0), (1, 2, 0, 3)):
            blocks = (
                (0, ("test", 0, 1, 2)), (1, ("last", ("own", 1), order), show(0), show(1), show(2), show(3), ("ask", 9, S),
                                         ("less", 9, 3, 9), ("times", 0, 0, 9)), (2, GIVE))
            f = code("f", *blocks, params=(NUMBER,) * 4)
            ahead = tuple(("const", t, t + 1) for t in range(4))
            call = ("call", None, ("own", 1), (0, 1, 2, 3), 1)
            rows = rows_of(code("main", (0, call) + ahead, (1, GIVE)), f)
            for registers in range(3, 9):
                runs_alike(self, [rows], [placed(rows, registers)], registers, [9, 9, 9, 0], even_book(1))

    def test_more_args_than_params(self):
        # the args of a last call lie where this code has slots and words of its own
        g = code("g", (0, GIVE) + tuple(show(t) for t in range(4)), params=(NUMBER,) * 4)
        for slots in ((), (1,), (3,)):
            for many in range(5):
                call = ("call", None, ("own", 2), (1, 2, 3, 4), 1)
                steps = tuple(("const", t, t) for t in range(1, 5)) + tuple(("clear", i) for i in range(len(slots)))
                f = code("f", (0, call) + steps, (1, ("last", ("own", 2), (4, 3, 2, 1))), slots=slots, params=(NUMBER,) * many)
                if many > 1:
                    f = code("f", (0, call) + tuple(("const", t, t) for t in range(many, 5)),
                             (1, ("last", ("own", 2), (4, 3, 2, 1))), slots=slots, params=(NUMBER,) * many)
                zero = (("const", 9, 7),)
                call = ("call", None, ("own", 1), (9,) * many, 1)
                rows = rows_of(code("main", (0, call) + zero, (1, GIVE)), f, g)
                for registers in (3, 5, 8):
                    runs_alike(self, [rows], [ask_placed(self, rows, registers)], registers, [], even_book(1))
