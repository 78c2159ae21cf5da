"""[64], [65]: the machine, cell by cell, and its clock."""

import unittest

from labelclocks.books import WORDS, even_book
from labelclocks.errors import BadAddress, BadBook, BadImage, BadInputs, BadItems, BadSteps
from labelclocks.frames import placed
from labelclocks.lowering import lowered
from labelclocks.machine import Machine
from labelclocks.readtexts import program_of
from tests.checks import ODD_VALUES
from tests.link import link
from tests.makers import dice_of, make_program
from tests.test_lowering import WHOLE

S = ("u", 0, 1)
MARK = ("mark", "u", (0, 1, ()))
OTHER = ("mark", "v", (1, 2, ()))


def image_of(*cells, size=10, registers=4, stores=5, room=20):
    return ("image", size, registers, stores, room, cells)


def machine_of(*cells, inputs=(), book=None, **more):
    return Machine(image_of(*cells, **more), list(inputs), book or even_book(1))


def ran(*cells, steps=1000, **more):
    machine = machine_of(*cells, **more)
    machine.go(steps)
    return machine


def told(machine):
    """All that a machine answers."""
    return (
        machine.trace(), machine.stations(), machine.clocks(), machine.stacks(), machine.steps(), machine.beats(), machine.state(),
        machine.left(), machine.pointer(), machine.registers(), [machine.word(at) for at in range(25)])


def book_of(**more):
    """A book in which each word costs otherwise."""
    book = {word: 10 + at for at, word in enumerate(WORDS)}
    book.update({"taken": 0, "wait": 0})
    book.update(more)
    return book


class CellsTest(unittest.TestCase):

    def registers(self, *cells, **more):
        machine = ran(*cells, steps=len(cells), **more)
        self.assertEqual(machine.state(), "running")
        return machine.registers()

    def test_set_move_not(self):
        self.assertEqual(self.registers(("set", 1, 7), ("move", 2, 1), ("not", 3, 2)), [0, 7, 7, 0])
        self.assertEqual(self.registers(("not", 3, 0), ("not", 2, 3)), [0, 0, 0, 1])

    def test_the_nine_words(self):
        for x, y in ((7, 4), (4, 7), (0, 3), (3, 3), (9, 9), (0, 0)):
            answers = {
                "plus": (x + y) % 10, "minus": (x - y) % 10, "times": x * y % 10, "over": y and x // y, "rest": y and x % y,
                "less": int(x < y), "same": int(x == y), "and": int(x > 0 and y > 0), "or": int(x > 0 or y > 0)}
            for word, n in answers.items():
                if word in ("over", "rest") and y == 0:
                    continue
                self.assertEqual(self.registers(("set", 0, x), ("set", 1, y), (word, 2, 0, 1))[2], n, word)
                self.assertEqual(self.registers(("set", 0, x), ("set", 1, y), (word, 0, 0, 1))[0], n, word)

    def test_words_of_any_size(self):
        # registers may hold more than the size: addresses
        big = (("set", 0, 9), ("offset", 0, 0, 400), ("set", 1, 4))
        for word, n in (("plus", 3), ("minus", 5), ("times", 6), ("over", 2), ("rest", 1), ("less", 0), ("same", 0), ("and", 1), ("or", 1)):
            self.assertEqual(self.registers(*big, (word, 2, 0, 1))[2], n, word)
        self.assertEqual(self.registers(*big)[0], 409)
        self.assertEqual(self.registers(*big, ("not", 2, 0), ("minus", 3, 1, 0))[2:], [0, 5])
        self.assertEqual(ran(*big, ("show", 0, 0, S)).trace()[0], ("shown", 0, 409))
        self.assertEqual(ran(*big, ("check", 0, 64, S)).trace()[-1], ("failed", "bounds"))

    def test_words_of_the_frame(self):
        machine = ran(("set", 0, 7), ("keep", 3, 0), ("get", 2, 3), ("base", 1, 3), ("load", 3, 1), steps=5)
        self.assertEqual((machine.registers(), machine.word(8)), ([7, 8, 7, 7], 7))
        machine = ran(("set", 0, 7), *[("keep", at, 0) for at in range(6)], ("clear", 1, 2), ("clear", 4, 1), steps=9)
        self.assertEqual([machine.word(at) for at in range(5, 12)], [7, 0, 0, 7, 0, 7, 0])
        self.assertEqual(machine.word(24), 0)
        self.assertRaises(BadAddress, machine.word, 25)

    def test_addresses(self):
        machine = ran(
            ("point", 0, 4), ("set", 1, 3), ("index", 2, 0, 1, 4, 2), ("offset", 3, 2, 5), ("save", 0, 1), ("save", 3, 2), steps=6)
        self.assertEqual(machine.registers(), [4, 3, 18, 23])
        self.assertEqual((machine.word(4), machine.word(23)), (3, 18))

    def test_show_ask_fail(self):
        machine = ran(("ask", 1, S), ("ask", 2, ("v", 2, 3)), ("show", 5, 1, S), ("ask", 3, S), ("fail", 4, ("v", 0, 0)), inputs=[17, 3])
        self.assertEqual(machine.trace(), [("asked", 7), ("asked", 3), ("shown", 5, 7), ("asked", 0), ("failed", 4)])
        self.assertEqual(machine.stations(), [S, ("v", 2, 3), S, S, ("v", 0, 0)])
        self.assertEqual((machine.state(), machine.left(), machine.registers()), ("failed", [], [0, 7, 3, 0]))
        self.assertEqual(ran(("ask", 1, S), steps=1, inputs=[4, 5, 6]).left(), [5, 6])

    def test_check_and_divisor(self):
        for x in range(5):
            machine = ran(("set", 0, x), ("check", 0, 3, S), ("halt",))
            self.assertEqual(machine.trace(), [("end",)] if x < 3 else [("failed", "bounds")])
            self.assertEqual(machine.stations(), [None] if x < 3 else [S])
            machine = ran(("set", 0, x), ("divisor", 0, S), ("halt",))
            self.assertEqual(machine.trace(), [("end",)] if x else [("failed", "zero")])
            self.assertEqual(machine.stations(), [None] if x else [S])

    def test_jump_and_unless(self):
        machine = ran(("jump", 2), ("halt",), ("set", 0, 3), steps=2)
        self.assertEqual((machine.registers(), machine.state()), ([3, 0, 0, 0], "running"))
        for x, y in ((0, 1), (1, 2), (9, 2)):
            machine = ran(("set", 0, x), ("unless", 0, 4), ("set", 1, 2), ("halt",), ("set", 1, 1), ("halt",))
            self.assertEqual(machine.registers()[1], y)

    def test_call_and_return(self):
        machine = machine_of(("set", 0, 5), ("call", 3, 4), ("halt",), ("keep", 0, 0), ("return",))
        machine.go(2)
        # the stack begins at 5, the frame of the caller has 4 words
        self.assertEqual((machine.pointer(), machine.word(9), machine.word(10)), (11, 2, 4))
        machine.go(1)
        self.assertEqual((machine.word(11), machine.word(5)), (5, 0))
        machine.go(1)
        self.assertEqual((machine.pointer(), machine.state(), machine.trace()), (5, "running", []))
        machine.go(1)
        self.assertEqual((machine.trace(), machine.stacks(), machine.steps()), ([("end",)], [0], 5))

    def test_last(self):
        machine = machine_of(("call", 2, 1), ("halt",), ("last", 3), ("show", 0, 0, S), ("return",))
        machine.go(2)
        self.assertEqual((machine.pointer(), machine.registers()), (8, [0] * 4))
        machine.go(1)
        self.assertEqual(machine.stacks(), [3])
        machine.go(2)
        self.assertEqual(machine.trace(), [("shown", 0, 0), ("end",)])

    def test_room(self):
        # 25 words in all, the stack from 5 on
        for n, told_item in ((13, ("failed", "bounds")), (14, ("failed", "bounds")), (15, ("failed", "room")), (4000, ("failed", "room"))):
            machine = ran(("room", n), ("set", 0, 1), ("check", 0, 1, S))
            self.assertEqual(machine.trace(), [told_item])
            self.assertEqual(machine.stations(), [S if told_item[1] == "bounds" else None])
        machine = ran(("call", 2, 3), ("halt",), ("room", 10), ("return",))
        self.assertEqual((machine.trace(), machine.stacks(), machine.steps()), ([("failed", "room")], [5], 2))
        machine = ran(("call", 2, 3), ("halt",), ("room", 9), ("return",))
        self.assertEqual(machine.state(), "ended")


class AstrayTest(unittest.TestCase):

    def astray(self, *cells, steps=None, height=0, **more):
        machine = ran(*cells, ("halt",), **more)
        self.assertEqual(machine.trace(), [("failed", "astray")])
        self.assertEqual((machine.stations(), machine.state(), machine.stacks()), ([None], "failed", [height]))
        self.assertEqual(machine.steps(), len(cells) if steps is None else steps)
        self.assertEqual(machine.clocks(), [machine.beats()])
        return machine

    def goes(self, *cells, **more):
        machine = ran(*cells, steps=len(cells), **more)
        self.assertEqual(machine.state(), "running")

    def test_addresses_beyond_the_memory(self):
        for cell in (("get", 0, 20), ("keep", 20, 0), ("clear", 20, 1), ("clear", 0, 21), ("clear", 19, 2)):
            self.astray(cell)
        for cell in (("get", 0, 19), ("keep", 19, 0), ("clear", 19, 1), ("clear", 0, 20), ("base", 0, 4005)):
            self.goes(cell)
        for offset, is_beyond in ((19, False), (20, True)):
            for cell in (("load", 1, 0), ("save", 0, 1)):
                cells = (("base", 0, 0), ("offset", 0, 0, offset), cell)
                if is_beyond:
                    self.astray(*cells)
                else:
                    self.goes(*cells)

    def test_calls_beyond_the_memory(self):
        self.goes(("call", 0, 18))
        machine = self.astray(("call", 0, 19))
        # the cell does nothing of what it does
        self.assertEqual((machine.pointer(), machine.word(24)), (5, 0))

    def test_returns_below_the_stores(self):
        self.astray(("return",))
        self.astray(("return",), stores=0)
        # a call whose words were overwritten: the stack pointer is 8, and may become less by 2 and 1
        for number, is_astray in ((1, False), (2, True), (9, True)):
            cells = (("call", 1, 1), ("set", 0, number), ("base", 1, 0), ("set", 2, 1), ("minus", 3, 1, 2), ("save", 3, 0), ("return",))
            if is_astray:
                self.assertEqual(self.astray(*cells, size=100, height=3).pointer(), 8)
            else:
                self.goes(*cells, size=100)

    def test_a_return_to_another_cell(self):
        cells = (
            ("call", 1, 1), ("set", 0, 9), ("base", 1, 0), ("set", 2, 2), ("minus", 3, 1, 2), ("save", 3, 0), ("return",), ("halt",), ("halt",),
            ("show", 0, 0, S), ("halt",))
        self.assertEqual(ran(*cells, size=100).trace(), [("shown", 0, 9), ("end",)])
        # beyond the cells the run fails as the next step is to be done
        machine = machine_of(*cells[:9], size=100)
        machine.go(7)
        self.assertEqual((machine.state(), machine.steps(), machine.pointer()), ("running", 7, 5))
        machine.go(0)
        self.assertEqual(machine.state(), "running")
        machine.go(1)
        self.assertEqual((machine.trace(), machine.steps(), machine.beats(), machine.stacks()), ([("failed", "astray")], 7, 7, [0]))

    def test_over_and_rest_by_0(self):
        for word in ("over", "rest"):
            machine = self.astray(("set", 0, 4), (word, 0, 0, 1))
            self.assertEqual(machine.registers()[0], 4)

    def test_beyond_the_cells(self):
        machine = machine_of(("set", 0, 1))
        machine.go(1)
        self.assertEqual((machine.state(), machine.steps()), ("running", 1))
        self.assertIs(machine.reach(1, 0), False)
        self.assertEqual(machine.state(), "running")
        self.assertIs(machine.reach(1, 1), True)
        self.assertEqual((machine.trace(), machine.state(), machine.steps(), machine.clocks()), ([("failed", "astray")], "failed", 1, [1]))
        machine = machine_of(MARK)
        self.assertEqual((len(machine.trace()), machine.state()), (1, "running"))
        machine.go(5)
        self.assertEqual((len(machine.trace()), machine.state(), machine.steps(), machine.clocks()), (2, "failed", 0, [0, 0]))


class ClockTest(unittest.TestCase):

    def test_each_word_costs_what_the_book_says(self):
        cells = (
            ("set", 0, 1), ("move", 1, 0), ("plus", 2, 0, 1), ("minus", 2, 0, 1), ("times", 2, 0, 1), ("over", 2, 0, 1), ("rest", 2, 0, 1),
            ("less", 2, 0, 1), ("same", 2, 0, 1), ("and", 2, 0, 1), ("or", 2, 0, 1), ("not", 2, 0), ("get", 2, 0), ("keep", 0, 2),
            ("clear", 0, 2), ("base", 1, 0), ("load", 2, 1), ("save", 1, 2), ("point", 3, 0), ("index", 1, 3, 0, 1, 0), ("offset", 1, 1, 0),
            ("check", 0, 9, S), ("divisor", 0, S), ("show", 0, 0, S), ("ask", 2, S), ("jump", 26), ("unless", 0, 0), ("room", 0),
            ("call", 29, 0), ("last", 30), ("return",))
        book = book_of()
        machine = machine_of(*cells, book=book)
        beats = 0
        for at, cell in enumerate(cells):
            self.assertEqual(machine.beats(), beats)
            machine.go(1)
            beats += book["store" if cell[0] == "point" else cell[0]]
            self.assertEqual((machine.beats(), machine.steps()), (beats, at + 1), cell)
        for cell in (("halt",), ("fail", 1, S)):
            self.assertEqual(ran(cell, book=book).clocks(), [book[cell[0]]])

    def test_cells_that_fail_cost_their_beats(self):
        book = book_of()
        for cell in (("divisor", 0, S), ("fail", 1, S), ("room", 4000), ("get", 0, 4000), ("over", 0, 0, 0), ("return",), ("call", 0, 4000)):
            machine = ran(("set", 1, 1), cell, book=book)
            self.assertEqual((machine.clocks(), machine.steps()), ([book["set"] + book[cell[0]]], 2), cell)
        machine = ran(("set", 1, 9), ("check", 1, 9, S), book=book)
        self.assertEqual(machine.clocks(), [book["set"] + book["check"]])

    def test_taken(self):
        for x, more in ((0, 7), (1, 0)):
            self.assertEqual(ran(("set", 0, x), ("unless", 0, 2), ("halt",), book=book_of(taken=7)).beats(),
                             sum(book_of()[word] for word in ("set", "unless", "halt")) + more)

    def wait(self, *cells, steps=None):
        """How often something was waited for."""
        steps = len(cells) if steps is None else steps
        one, other = [ran(*cells, steps=steps, book=book_of(wait=wait)).beats() for wait in (0, 50)]
        return (other - one) // 50

    def test_wait(self):
        for load in (("get", 1, 0), ("load", 1, 0)):
            for cell in (("move", 2, 1), ("plus", 2, 0, 1), ("plus", 2, 1, 0), ("plus", 1, 1, 1), ("not", 0, 1), ("keep", 0, 1), ("load", 2, 1),
                         ("save", 1, 0), ("save", 0, 1), ("index", 2, 1, 0, 1, 0), ("index", 2, 0, 1, 1, 0), ("offset", 2, 1, 0),
                         ("check", 1, 9, S), ("show", 0, 1, S), ("unless", 1, 0)):
                self.assertEqual(self.wait(load, cell), 1, cell)
            self.assertEqual(self.wait(load, ("divisor", 1, S)), 1)
            for cell in (("set", 1, 0), ("move", 1, 0), ("plus", 1, 0, 2), ("get", 1, 0), ("load", 1, 0), ("base", 1, 0), ("point", 1, 0),
                         ("ask", 1, S), ("keep", 0, 2), ("unless", 2, 0), ("room", 1), ("clear", 0, 1), ("show", 1, 0, S), ("call", 0, 1)):
                self.assertEqual(self.wait(load, cell), 0, cell)

    def test_only_the_cell_just_ahead_is_waited_for(self):
        load, read = ("get", 1, 0), ("move", 2, 1)
        self.assertEqual(self.wait(load, ("set", 3, 0), read), 0)
        self.assertEqual(self.wait(load, ("jump", 2), read), 0)
        self.assertEqual(self.wait(load, MARK, read, steps=2), 0)
        self.assertEqual(self.wait(load, ("move", 1, 1), read), 1)
        self.assertEqual(self.wait(load, ("load", 1, 1), read), 2)
        self.assertEqual(self.wait(("set", 1, 0), read), 0)
        self.assertEqual(self.wait(("get", 1, 0), ("get", 3, 0), read), 0)
        # the next cell done, wherever it stands
        self.assertEqual(self.wait(("jump", 2), ("move", 2, 1), ("get", 1, 0), ("unless", 1, 1), steps=4), 1)

    def test_marks(self):
        machine = machine_of(MARK, OTHER, ("set", 0, 1), MARK, ("jump", 6), ("halt",), OTHER, ("halt",), book=book_of())
        one = ("label", "u", (0, 1, ()))
        other = ("label", "v", (1, 2, ()))
        self.assertEqual((machine.trace(), machine.steps(), machine.beats()), ([one, other], 0, 0))
        machine.go(0)
        self.assertEqual(len(machine.trace()), 2)
        machine.go(1)
        self.assertEqual((machine.trace(), machine.steps()), ([one, other, one], 1))
        machine.go(1)
        self.assertEqual((machine.trace(), machine.steps()), ([one, other, one, other], 2))
        machine.go(9)
        book = book_of()
        first = book["set"]
        self.assertEqual(machine.clocks(), [0, 0, first, first + book["jump"], first + book["jump"] + book["halt"]])
        self.assertEqual(machine.stations(), [None] * 5)
        self.assertEqual(machine.stacks(), [0] * 5)

    def test_stacks_as_cells_begin(self):
        machine = ran(("call", 2, 3), ("halt",), MARK, ("show", 0, 0, S), ("return",))
        self.assertEqual(machine.stacks(), [5, 5, 0])


class MachineTest(unittest.TestCase):

    def images(self):
        for seed in range(14):
            dice = dice_of(seed)
            program = make_program(dice, nodes=60)
            rows = [lowered(unit) for unit in program]
            registers = dice.randint(3, 8)
            yield link(rows, [placed(one, registers) for one in rows], registers), [dice.randrange(10000) for _ in range(5)], dice
        rows = [lowered(unit) for unit in program_of(WHOLE)]
        yield link(rows, [placed(one, 3) for one in rows], 3), [5, 1, 2], dice_of(1)

    def test_portions(self):
        for image, inputs, dice in self.images():
            book = book_of(taken=3, wait=5)
            one = Machine(image, inputs, book)
            one.go(600)
            other = Machine(image, inputs, book)
            while other.steps() < 600 and other.state() == "running":
                other.go(dice.randint(0, min(9, 600 - other.steps())))
                many = len(other.trace())
                self.assertEqual(other.trace(), one.trace()[:many])
                self.assertEqual(other.clocks(), one.clocks()[:many])
                self.assertEqual(other.stacks(), one.stacks()[:many])
                self.assertEqual(other.stations(), one.stations()[:many])
            self.assertEqual(told(other), told(one))

    def test_another_book_changes_clocks_and_beats_alone(self):
        for image, inputs, _ in self.images():
            one, other = Machine(image, inputs, book_of(taken=3, wait=5)), Machine(image, inputs, even_book(1))
            for machine in (one, other):
                machine.go(500)
            answers = told(one), told(other)
            for at in (0, 1, 3, 4, 6, 7, 8, 9, 10):
                self.assertEqual(answers[0][at], answers[1][at])
            self.assertEqual(other.beats(), other.steps())
            if len(one.trace()) > 3:
                self.assertNotEqual(answers[0][2], answers[1][2])

    def test_reach(self):
        for image, inputs, dice in self.images():
            whole = Machine(image, inputs, even_book(1))
            whole.go(400)
            many = len(whole.trace())
            for items in (0, 1, many // 2, many):
                machine = Machine(image, inputs, even_book(1))
                self.assertIs(machine.reach(items, 400), True)
                self.assertTrue(len(machine.trace()) >= items)
                steps = machine.steps()
                if steps:
                    again = Machine(image, inputs, even_book(1))
                    self.assertIs(again.reach(items, steps - 1), False)
                    self.assertEqual(again.steps(), steps - 1)
                    self.assertIs(again.reach(items, 1), True)
                self.assertIs(machine.reach(items, 0), True)
                self.assertEqual(machine.steps(), steps)
            machine = Machine(image, inputs, even_book(1))
            self.assertIs(machine.reach(10 ** 99, 300), False)
            self.assertTrue(machine.steps() == 300 or machine.state() != "running")

    def test_copies(self):
        for image, inputs, dice in self.images():
            machine = Machine(image, inputs, book_of(wait=9))
            machine.go(dice.randint(0, 200))
            before = told(machine)
            twin = machine.copy()
            self.assertEqual(told(twin), before)
            twin.go(150)
            after = told(twin)
            self.assertEqual(told(machine), before)
            machine.go(150)
            self.assertEqual(told(machine), after)
            self.assertEqual(told(twin), after)

    def test_a_copy_between_a_load_and_what_reads_it(self):
        machine = machine_of(("get", 1, 0), ("move", 2, 1), ("halt",), book=book_of(wait=50))
        machine.go(1)
        twin = machine.copy()
        for one in (machine, twin):
            one.go(1)
            self.assertEqual(one.beats(), book_of()["get"] + book_of()["move"] + 50)

    def test_lists_are_the_callers_own(self):
        machine = ran(MARK, ("show", 0, 0, S), ("halt",), inputs=[4, 5])
        before = told(machine)
        for answer in (machine.trace(), machine.stations(), machine.clocks(), machine.stacks(), machine.left(), machine.registers()):
            answer.clear()
        self.assertEqual(told(machine), before)
        inputs, book = [3, 4], even_book(2)
        machine = Machine(image_of(("ask", 0, S), ("ask", 1, S), ("halt",)), inputs, book)
        inputs.clear()
        book.clear()
        machine.go(9)
        self.assertEqual((machine.trace()[:2], machine.beats()), ([("asked", 3), ("asked", 4)], 6))

    def test_an_end_is_an_end(self):
        for cell in (("halt",), ("fail", 0, S)):
            machine = ran(cell, MARK, ("show", 0, 0, S))
            self.assertEqual((len(machine.trace()), machine.steps()), (1, 1))
            machine.go(1000000)
            self.assertEqual((len(machine.trace()), machine.steps()), (1, 1))
            self.assertIs(machine.reach(2, 1000000), False)
            self.assertIs(machine.reach(1, 0), True)

    def test_words(self):
        machine = ran(("set", 0, 4), ("keep", 19, 0), steps=2)
        self.assertEqual((machine.word(24), machine.word(address=0)), (4, 0))
        for address in (25, -1, None, True, "0", 10 ** 99, [0]):
            self.assertRaises(BadAddress, machine.word, address)

    def test_bad_steps_and_items(self):
        machine = machine_of(("jump", 0))
        machine.go(many=1000)
        for value in (-1, 1000001, None, True, "1", [1]):
            self.assertRaises(BadSteps, machine.go, value)
            self.assertRaises(BadSteps, machine.reach, 0, value)
        for value in (-1, None, True, "1", [1]):
            self.assertRaises(BadItems, machine.reach, value, None)
        self.assertIs(machine.reach(items=1, most=10), False)
        self.assertEqual(machine.steps(), 1010)

    def test_errors_in_order(self):
        right = [image_of(("halt",)), [], even_book(1)]
        for at, error in enumerate((BadImage, BadInputs, BadBook)):
            self.assertRaises(error, Machine, *right[:at], *[None] * (3 - at))
            for value in ODD_VALUES + ([None], [10000], [True], [-1], (0,) * 401):
                if error is not BadInputs or value not in ([], (), [1], (1,)):
                    self.assertRaises(error, Machine, *right[:at], value, *right[at + 1:])
        self.assertEqual(Machine(image=right[0], inputs=(9999,) * 400, book=right[2]).left(), [9999] * 400)
