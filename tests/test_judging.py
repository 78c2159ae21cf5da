"""[56] to [58]: placings and papers made by anybody, what the judge refuses, and own papers."""

import unittest

from labelclocks.books import even_book
from labelclocks.errors import BadFunction, BadPaper, BadPlacing, BadRegisters, BadRows, TooLarge
from labelclocks.frames import placed
from labelclocks.judging import is_placing, judge
from labelclocks.lowering import lowered
from labelclocks.machine import Machine
from labelclocks.ownpapers import paper_of
from labelclocks.rowruns import RowRun
from tests.checks import ODD_VALUES
from tests.heart import made_by_dice
from tests.judge2 import Judge2
from tests.link import is_led, link
from tests.madecode import make_rows
from tests.makers import dice_of, make_program
from tests.test_rowruns import GIVE, S, code, main, rows_of, show

NUMBER = ("worth", "number")
MARK = ("mark", (0, 0, ()))


def register(r):
    return ("register", r)


def word(w):
    return ("word", w)


def refusal(rows, cells, paper, f=0, registers=8, frame=0):
    return judge(rows, f, registers, (tuple(cells), frame), paper)


class PlacingTest(unittest.TestCase):

    def setUp(self):
        self.rows = rows_of(
            code("main", (0, GIVE), slots=(3,)), code("f", (0, GIVE), params=(NUMBER, NUMBER), slots=(2, 5)),
            stores=(("s", 3),), uses=(("v", "g", (), None),))

    def ask(self, told, cells, frame=9, f=1, registers=4):
        answer = is_placing(self.rows, f, registers, (tuple(cells), frame))
        self.assertIs(answer, told, (cells, frame))

    def test_right_ones(self):
        self.ask(True, [("return",)])
        self.ask(True, [("room", 3), MARK, MARK, ("store", 3, "s"), ("call", ("own", 1), 0), ("last", ("use", 0)), ("jump", 5)])
        self.ask(True, [("return",)] * 8000, 4000)
        self.ask(True, [("set", 0, 9)], 3, 0, 3)

    def test_wrong_ones(self):
        self.ask(False, [])
        self.ask(False, [("return",)] * 8001)
        for frame, told in ((8, False), (9, True), (4000, True), (4001, False), (None, False), (True, False)):
            self.ask(told, [("return",)], frame)
        for frame, told in ((2, False), (3, True)):
            self.ask(told, [("return",)], frame, 0)
        for cell in (("store", 0, "q"), ("call", ("own", 2), 9), ("call", ("use", 1), 9), ("last", ("own", 2)), ("last", ("use", 1)),
                     ("jump", 1), ("set", 0, 10), ("move", 4, 0), ("halt",), None, ["return"]):
            self.ask(False, [cell])
            self.ask(False, [("return",), cell] if cell != ("jump", 1) else [cell])
        for value in ODD_VALUES + (((("return",),),), [(("return",),), 9], ([("return",)], 9), ((("return",),), 9, 0)):
            self.assertIs(is_placing(self.rows, 1, 4, value), False)

    def test_errors_in_order(self):
        for value in ODD_VALUES:
            self.assertRaises(BadRows, is_placing, value, None, None, None)
            self.assertRaises(BadRows, judge, value, None, None, None, None)
            self.assertRaises(BadRows, paper_of, value, None, None)
        for f in (2, -1, None, True):
            self.assertRaises(BadFunction, is_placing, self.rows, f, None, None)
            self.assertRaises(BadFunction, judge, self.rows, f, None, None, None)
            self.assertRaises(BadFunction, paper_of, self.rows, f, None)
        for registers in (2, 9, None, True):
            self.assertRaises(BadRegisters, is_placing, self.rows, 0, registers, None)
            self.assertRaises(BadRegisters, judge, self.rows, 0, registers, None, None)
            self.assertRaises(BadRegisters, paper_of, self.rows, 0, registers)
        for value in ODD_VALUES:
            self.assertRaises(BadPlacing, judge, self.rows, 0, 3, value, None)
            self.assertRaises(BadPaper, judge, self.rows, 0, 3, ((("return",),), 3), value)


class PaperTest(unittest.TestCase):

    rows = rows_of(
        code("main", (0, GIVE)),
        code("f", (0, ("jump", 1)), (1, GIVE), (2, GIVE), params=(NUMBER, NUMBER), slots=(2, 5)))
    cells = (("room", 10), ("mark", (1, 0, ())), ("mark", (1, 1, ())), ("return",))
    first = (0, ((("word", 0), 0), (("word", 1), 1)))

    def is_paper(self, paper):
        try:
            judge(self.rows, 1, 4, (self.cells, 10), paper)
        except BadPaper:
            return False
        return True

    def test_right_ones(self):
        self.assertTrue(self.is_paper({0: self.first}))
        self.assertTrue(self.is_paper({2: (3, ()), 0: self.first, 1: (2, ((register(3), 9999), (word(15), 0), (word(9), 7)))}))
        self.assertTrue(self.is_paper({0: self.first, 1: (2, ((register(3), 1),) * 50)}))

    def test_wrong_ones(self):
        for first in (
                (1,) + self.first[1:], (0, ()), (0, self.first[1][::-1]), (0, self.first[1] + self.first[1][:1]), (0, list(self.first[1])),
                (0, self.first[1][:1]), list(self.first), (False,) + self.first[1:], (0, (((("word", False), 0)), (word(1), 1)))):
            self.assertFalse(self.is_paper({0: first}), first)
        for block in (3, -1, None, True, "1", (1,)):
            self.assertFalse(self.is_paper({0: self.first, block: (2, ())}))
        self.assertFalse(self.is_paper({1: (2, ())}))
        self.assertFalse(self.is_paper({}))
        self.assertFalse(self.is_paper({False: self.first}))
        for told in ((4, ()), (-1, ()), (None, ()), (True, ()), (2,), (2, [], 0), (2, []), [2, ()], None, (2, None)):
            self.assertFalse(self.is_paper({0: self.first, 1: told}), told)

    def test_places(self):
        for place, told in ((0, True), (1, True), (2, False), (8, False), (9, True), (15, True), (16, False), (-1, False)):
            self.assertIs(self.is_paper({0: self.first, 1: (2, ((word(place), 5),))}), told, place)
        for r, told in ((0, True), (3, True), (4, False), (-1, False), (True, False), (None, False)):
            self.assertIs(self.is_paper({0: self.first, 1: (2, ((register(r), 5),))}), told)
        for pair in ((register(0),), [register(0), 5], (["register", 0], 5), (("slot", 0), 5), (("register", 0, 0), 5), (register(0), 10000),
                     (register(0), -1), (register(0), True), (register(0), None), None, (5, register(0))):
            self.assertFalse(self.is_paper({0: self.first, 1: (2, (pair,))}), pair)


class JudgeTest(unittest.TestCase):

    def test_silent_rows_and_cells(self):
        rows = main(
            ("const", 1, 4), ("copy", 2, 1), ("plus", 3, 1, 2), ("not", 4, 3), show(4), ("base", 5, ("store", "s")),
            ("offset", 6, 5, 2), ("index", 7, 6, 3, 3, 1), ("save", 7, 2), stores=(("s", 9),))
        right = [
            ("room", 0), MARK, ("set", 0, 4), ("plus", 1, 0, 0), ("not", 1, 1), ("show", 0, 1, S), ("store", 2, "s"),
            ("offset", 2, 2, 2), ("plus", 3, 0, 0), ("index", 2, 2, 3, 3, 1), ("save", 2, 0), ("return",)]
        paper = {0: (0, ())}
        self.assertIsNone(refusal(rows, right, paper))
        # what is shown, by other cells
        for cells in ([("set", 5, 4), ("move", 0, 5), ("set", 6, 1), ("plus", 1, 5, 0)],
                      [("set", 0, 4), ("keep", 3, 0), ("get", 7, 3), ("plus", 1, 7, 0)],
                      [("set", 0, 4), ("jump", 5), ("return",), ("plus", 1, 0, 0)]):
            self.assertIsNone(refusal(rows, right[:2] + cells + right[4:], paper))
        for at, cell, told in (
                (2, ("set", 0, 5), (0, 4, 5)), (3, ("times", 1, 0, 0), (0, 4, 5)), (4, ("not", 1, 0), (0, 4, 5)),
                (5, ("show", 1, 1, S), (0, 4, 5)), (5, ("show", 0, 1, (0, 8)), (0, 4, 5)), (5, ("show", 0, 0, S), (0, 4, 5)),
                (7, ("offset", 2, 2, 1), (0, 8, 10)), (9, ("index", 2, 2, 3, 2, 1), (0, 8, 10)), (9, ("index", 2, 2, 3, 3, 2), (0, 8, 10)),
                (10, ("save", 0, 2), (0, 8, 10)), (8, ("plus", 3, 0, 3), (0, 8, 10)), (11, ("fail", 0, S), (0, 9, 11)),
                (1, ("mark", (0, 1, ())), (0, -1, 1)), (0, ("room", 1), (0, -1, 0)), (6, ("fail", 1, S), (0, 8, 6)),
                (6, ("jump", 6), (0, 8, 6)), (2, ("jump", 11), (0, 4, 11)), (11, ("set", 0, 0), (0, 9, 12))):
            self.assertEqual(refusal(rows, right[:at] + [cell] + right[at + 1:], paper), told, cell)

    def test_values_are_told_in_order(self):
        rows = main(("ask", 1, S), ("ask", 2, S), ("plus", 3, 1, 2), show(3))
        cells = [("room", 0), MARK, ("ask", 1, S), ("ask", 2, S), ("plus", 3, 1, 2), ("show", 0, 3, S), ("return",)]
        self.assertIsNone(refusal(rows, cells, {0: (0, ())}))
        cells[4] = ("plus", 3, 2, 1)
        self.assertEqual(refusal(rows, cells, {0: (0, ())}), (0, 3, 5))

    def test_bases_of_slots(self):
        rows = main(("base", 1, ("slot", 1)), ("const", 2, 0), ("save", 1, 2), ("clear", 1), slots=(3, 4))
        cells = [("room", 7), MARK, ("base", 0, 3), ("set", 1, 0), ("save", 0, 1), ("clear", 3, 4), ("return",)]
        self.assertIsNone(refusal(rows, cells, {0: (0, ())}, frame=7))
        for at, cell, told in ((2, ("base", 0, 0), (0, 2, 4)), (2, ("base", 0, 4), (0, 2, 4)), (5, ("clear", 3, 3), (0, 3, 5)),
                               (5, ("clear", 0, 4), (0, 3, 5))):
            self.assertEqual(refusal(rows, cells[:at] + [cell] + cells[at + 1:], {0: (0, ())}, frame=7), told)

    def test_loud_steps(self):
        rows = main(
            ("ask", 1, (0, 1)), ("ask", 2, (0, 2)), ("over", 3, 1, 2), ("rest", 4, 1, 2), ("check", 4, 5, (0, 3)),
            ("divisor", 3, (0, 4)), ("base", 5, ("store", "s")), ("load", 6, 5), ("save", 5, 6), ("show", 3, 6, (0, 5)), stores=(("s", 1),))
        right = [
            ("room", 0), MARK, ("ask", 0, (0, 1)), ("ask", 1, (0, 2)), ("over", 2, 0, 1), ("rest", 3, 0, 1), ("check", 3, 5, (0, 3)),
            ("divisor", 2, (0, 4)), ("store", 4, "s"), ("load", 5, 4), ("save", 4, 5), ("show", 3, 5, (0, 5)), ("return",)]
        paper = {0: (0, ())}
        self.assertIsNone(refusal(rows, right, paper))
        for at, k, cells in (
                (2, 0, [("ask", 0, (0, 2)), ("check", 0, 1, (0, 1))]), (4, 2, [("over", 2, 1, 0), ("rest", 2, 0, 1), ("plus", 2, 0, 1)]),
                (6, 4, [("check", 2, 5, (0, 3)), ("check", 3, 4, (0, 3)), ("check", 3, 5, (0, 2))]),
                (7, 5, [("divisor", 3, (0, 4)), ("divisor", 2, (0, 3))]), (9, 7, [("load", 5, 3)]), (10, 8, [("save", 4, 4), ("save", 5, 5)]),
                (11, 9, [("show", 3, 4, (0, 5)), ("show", 2, 5, (0, 5)), ("show", 3, 5, (1, 5))])):
            for cell in cells:
                # a silent cell in the place of a loud one is gone over
                told = (0, k, at + 1) if cell[0] == "plus" else (0, k, at)
                self.assertEqual(refusal(rows, right[:at] + [cell] + right[at + 1:], paper), told, cell)
        # one cell left out, and one put in
        self.assertEqual(refusal(rows, right[:3] + right[4:], paper), (0, 1, 3))
        self.assertEqual(refusal(rows, right[:3] + right[2:], paper), (0, 1, 3))
        # what a loud step gives is new, even if it is asked the same
        rows = main(("ask", 1, S), ("divisor", 1, S), ("over", 2, 1, 1), ("over", 3, 1, 1), show(2))
        cells = [("room", 0), MARK, ("ask", 0, S), ("divisor", 0, S), ("over", 1, 0, 0), ("over", 2, 0, 0), ("show", 0, 1, S), ("return",)]
        self.assertIsNone(refusal(rows, cells, paper))
        self.assertEqual(refusal(rows, cells[:6] + [("show", 0, 2, S), ("return",)], paper), (0, 4, 6))

    def test_the_room_is_cell_0(self):
        rows = main()
        paper = {0: (0, ())}
        self.assertIsNone(refusal(rows, [("room", 4), MARK, ("return",)], paper, frame=4))
        self.assertEqual(refusal(rows, [("set", 0, 0), ("room", 0), MARK, ("return",)], paper), (0, -1, 1))
        self.assertEqual(refusal(rows, [("jump", 1), ("room", 0), MARK, ("return",)], paper), (0, -1, 1))
        self.assertEqual(refusal(rows, [("jump", 1), ("jump", 0)], paper), (0, -1, 0))
        self.assertEqual(refusal(rows, [("jump", 1), ("jump", 1)], paper), (0, -1, 1))
        self.assertEqual(refusal(rows, [MARK, ("room", 0)], paper), (0, -1, 0))
        self.assertEqual(refusal(rows, [("room", 0), ("return",)], paper), (0, -1, 1))
        self.assertEqual(refusal(rows, [("room", 0), ("set", 0, 0)], paper), (0, -1, 2))
        self.assertEqual(refusal(rows, [("room", 0), ("set", 0, 0), ("set", 1, 0), ("jump", 2)], paper), (0, -1, 2))

    def test_words_of_the_frame(self):
        rows = main(("const", 1, 4), show(1), slots=(3,))
        paper = {0: (0, ())}

        def told(w):
            return refusal(
                rows, [("room", 4), MARK, ("set", 0, 4), ("keep", w, 0), ("get", 1, w), ("show", 0, 1, S), ("return",)], paper, frame=4)
        # words of the slot and beyond frame + 5 are loud
        self.assertEqual([told(w) for w in (0, 2, 10, 11)], [(0, 1, 3)] * 4)
        self.assertEqual([told(w) for w in (3, 4, 9)], [None] * 3)

    def test_words_of_slots_at_last_calls(self):
        g = code("g", (0, GIVE), params=(NUMBER,))
        for steps, loud in (((("const", 1, 4),), ()), ((("const", 1, 4), show(1)), (("show", 0, 0, S),))):
            rows = rows_of(code("main", (0, ("last", ("own", 1), (1,))) + steps, slots=(3,)), g)
            cells = [("room", 3), MARK, ("set", 0, 4), *loud, ("keep", 0, 0), ("last", ("own", 1))]
            self.assertIsNone(refusal(rows, cells, {0: (0, ())}, frame=3))
            if loud:
                # ahead of a loud step the slot is still there
                cells = [("room", 3), MARK, ("set", 0, 4), ("keep", 0, 0), *loud, ("last", ("own", 1))]
                self.assertEqual(refusal(rows, cells, {0: (0, ())}, frame=3), (0, 1, 3))
        rows = rows_of(code("main", (0, ("last", ("own", 1), (1,)), ("const", 1, 4)), slots=(3,)), g)
        cells = [("room", 3), ("set", 0, 4), ("keep", 0, 0), MARK, ("last", ("own", 1))]
        self.assertEqual(refusal(rows, cells, {0: (0, ())}, frame=3), (0, -1, 2))
        cells = [("room", 3), MARK, ("set", 0, 4), ("keep", 0, 0), ("get", 5, 0), ("keep", 2, 5), ("get", 6, 2), ("keep", 0, 6), ("last", ("own", 1))]
        self.assertIsNone(refusal(rows, cells, {0: (0, ())}, frame=3))
        cells[3] = ("keep", 1, 0)
        self.assertEqual(refusal(rows, cells, {0: (0, ())}, frame=3), (0, 1, 8))
        cells = [("room", 3), MARK, ("set", 0, 4), ("keep", 0, 0), ("last", ("own", 0))]
        self.assertEqual(refusal(rows, cells, {0: (0, ())}, frame=3), (0, 1, 4))

    def test_tests(self):
        rows = rows_of(code("main", (0, ("test", 1, 1, 2), ("ask", 1, S)), (1, GIVE, show(1)), (2, GIVE, show(1))))
        one, two = ("mark", (0, 1, ())), ("mark", (0, 2, ()))
        cells = [("room", 0), MARK, ("ask", 0, S), ("unless", 0, 6), one, ("jump", 8), ("move", 1, 0), two, ("show", 0, 0, S), ("return",)]
        # block 2 begins behind the move, and both go on at the same show
        paper = {0: (0, ()), 1: (4, ((register(0), 1),)), 2: (7, ((register(1), 1), (register(0), 1)))}
        self.assertIsNone(refusal(rows, cells, paper))
        self.assertEqual(refusal(rows, cells, {**paper, 2: (8, ((register(0), 1),))}), (0, 1, 7))
        self.assertEqual(refusal(rows, cells, {**paper, 2: (7, ((register(2), 1),))}), (0, 1, 7))
        self.assertEqual(refusal(rows, cells, {**paper, 1: (4, ((register(1), 1),))}), (0, 1, 4))
        self.assertEqual(refusal(rows, cells, {0: paper[0], 2: paper[2]}), (0, 1, None))
        self.assertEqual(refusal(rows, cells, {0: paper[0], 1: paper[1]}), (0, 1, None))
        self.assertEqual(refusal(rows, cells, {**paper, 1: (4, ())}), (1, 0, 8))
        self.assertEqual(refusal(rows, cells, {**paper, 2: (7, ((register(1), 1),))}), (2, 0, 8))
        told = cells[:3] + [("unless", 1, 6)] + cells[4:]
        self.assertEqual(refusal(rows, told, paper), (0, 1, 3))
        # the ways of an unless do not know of one another
        told = cells[:4] + [("jump", 5), one] + cells[6:]
        told = cells[:3] + [("unless", 0, 6), ("move", 1, 0), one, two, ("show", 0, 0, S), ("return",)]
        self.assertEqual(refusal(rows, told, {0: (0, ()), 1: (5, ((register(0), 1),)), 2: (6, ((register(1), 1),))}), (0, 1, 6))

    def test_jumps(self):
        rows = rows_of(code("main", (0, ("jump", 1), ("const", 1, 3)), (None, ("jump", 2), ("copy", 2, 1)), (5, GIVE, show(2))))
        five = ("mark", (0, 5, ()))
        cells = [("room", 0), MARK, ("set", 0, 3), five, ("show", 0, 0, S), ("return",)]
        paper = {0: (0, ()), 1: (3, ((register(0), 1),)), 2: (3, ((register(0), 2),))}
        self.assertIsNone(refusal(rows, cells, paper))
        # where the cells are already behind the address there is no way to it
        self.assertEqual(refusal(rows, cells, {**paper, 1: (1, ())}), (0, 1, 3))
        # with nothing held as block 1 begins, what 2 copies there is unknown
        self.assertEqual(refusal(rows, cells, {**paper, 1: (2, ())}), (1, 1, 3))

    def test_calls(self):
        f = code("f", (0, ("give", 0)), params=(NUMBER, NUMBER), result="number")
        blocks = ((0, ("call", 3, ("own", 1), (1, 2), 1), ("ask", 1, S), ("ask", 2, S)), (1, GIVE, show(3), show(1)))
        rows = rows_of(code("main", *blocks), f)
        one = ("mark", (0, 1, ()))
        cells = [
            ("room", 1), MARK, ("ask", 0, S), ("keep", 0, 0), ("keep", 3, 0), ("ask", 1, S), ("keep", 4, 1), ("call", ("own", 1), 1), one,
            ("show", 0, 0, S), ("get", 5, 0), ("show", 0, 5, S), ("return",)]
        held = ((register(0), 3), (word(0), 1))
        paper = {0: (0, ()), 1: (8, held)}
        self.assertIsNone(refusal(rows, cells, paper, frame=1))
        for at, cell in ((4, ("keep", 4, 0)), (6, ("keep", 4, 0)), (7, ("call", ("own", 0), 1)), (7, ("call", ("own", 1), 0)), (7, ("last", ("own", 1)))):
            self.assertEqual(refusal(rows, cells[:at] + [cell] + cells[at + 1:], paper, frame=1), (0, 2, 7))
        # registers and the words from the frame on hold something new behind the call
        for pair in ((register(0), 1), (register(1), 2), (word(3), 1), (word(4), 2), (register(1), 3), (word(1), 4), (word(0), 2), (word(2), 1)):
            self.assertEqual(refusal(rows, cells, {**paper, 1: (8, held + (pair,))}, frame=1), (0, 2, 8))
        # the word at the frame is the call's own
        for w, answer in ((0, None), (1, (0, 2, 9)), (2, (0, 2, 9)), (6, (0, 2, 9))):
            told = cells[:4] + [("keep", w, 0)] + cells[4:]
            self.assertEqual(refusal(rows, told, {0: (0, ()), 1: (9, held + ((word(w), 1),))}, frame=1), answer)
        # a call without t
        blocks = ((0, ("call", None) + blocks[0][1][2:]) + blocks[0][2:], (1, GIVE, show(1)))
        rows = rows_of(code("main", *blocks), f)
        self.assertIsNone(refusal(rows, cells[:9] + cells[10:], {0: (0, ()), 1: (8, held[1:])}, frame=1))

    def test_params_and_results(self):
        f = code("f", (0, ("give", 1), show(0)), params=(NUMBER, NUMBER), result="number")
        rows = rows_of(code("main", (0, GIVE)), f)
        mark = ("mark", (1, 0, ()))
        paper = {0: (0, ((word(0), 0), (word(1), 1)))}
        cells = [("room", 2), mark, ("get", 0, 0), ("show", 0, 0, S), ("get", 0, 1), ("return",)]
        self.assertIsNone(refusal(rows, cells, paper, f=1, frame=2))
        for at, cell, told in ((2, ("get", 0, 1), (0, 0, 3)), (4, ("get", 1, 1), (0, 1, 5)), (4, ("get", 0, 0), (0, 1, 5)), (5, ("fail", 1, S), (0, 1, 5))):
            self.assertEqual(refusal(rows, cells[:at] + [cell] + cells[at + 1:], paper, f=1, frame=2), told)

    def test_fails(self):
        rows = main(ending=("fail", 3, (1, 2)))
        cells = [("room", 0), MARK, ("fail", 3, (1, 2))]
        self.assertIsNone(refusal(rows, cells, {0: (0, ())}))
        for cell in (("fail", 2, (1, 2)), ("fail", 3, (1, 1)), ("return",)):
            self.assertEqual(refusal(rows, cells[:2] + [cell], {0: (0, ())}), (0, 0, 2))

    def test_what_pairs_link(self):
        rows = rows_of(code("main", (0, ("jump", 1), ("ask", 1, S), ("copy", 2, 1)), (1, GIVE, show(1), show(2))))
        cells = [("room", 0), MARK, ("ask", 0, S), ("move", 1, 0), ("mark", (0, 1, ())), ("show", 0, 1, S), ("show", 0, 0, S), ("return",)]
        # 1 is in register 0, and 2 in both, so 1 is in both
        held = ((register(0), 1), (register(0), 2), (register(1), 2))
        self.assertIsNone(refusal(rows, cells, {0: (0, ()), 1: (4, held)}))
        self.assertIsNone(refusal(rows, cells, {0: (0, ()), 1: (4, held[::-1])}))
        self.assertEqual(refusal(rows, cells, {0: (0, ()), 1: (4, held[:2])}), (1, 0, 5))
        # groups that a later pair makes one
        for pairs in (((register(0), 1), (register(1), 2), (register(0), 2)), ((register(0), 1), (register(1), 2), (register(1), 1)),
                     ((register(0), 1), (register(1), 2), (register(2), 3), (register(3), 4), (register(0), 4), (register(3), 3),
                      (register(2), 2))):
            self.assertEqual(refusal(rows, cells, {0: (0, ()), 1: (4, pairs[:2])}), (1, 0, 5))
            told = refusal(rows, cells, {0: (0, ()), 1: (4, pairs)})
            self.assertEqual(told, None if len(pairs) == 3 else (0, 2, 4))
            self.assertEqual(Judge2(rows, 0, (tuple(cells), 0), {0: (0, ()), 1: (4, pairs)}).judge(), told)
        # pairs more that follow
        self.assertIsNone(refusal(rows, cells, {0: (0, ()), 1: (4, held + ((register(1), 1),) * 2)}))

    def test_the_least_block(self):
        rows = rows_of(code("main", (0, ("jump", 1)), (1, ("jump", 2), ("const", 1, 0)), (2, GIVE, ("const", 1, 0))))
        cells = [("room", 0), MARK, ("mark", (0, 1, ())), ("mark", (0, 2, ())), ("return",)]
        paper = {2: (3, ()), 1: (2, ()), 0: (0, ())}
        self.assertIsNone(refusal(rows, cells, paper))
        bad = (register(0), 1)
        self.assertEqual(refusal(rows, cells, {2: (3, (bad,)), 1: (2, (bad,)), 0: (0, ())}), (0, 0, 2))
        self.assertEqual(refusal(rows, cells, {2: (3, (bad,)), 1: (2, ()), 0: (0, ())}), (1, 1, 3))

    def test_blocks_that_no_road_leads_to(self):
        # a paper may have them, and then they are judged, too
        rows = rows_of(code("main", (0, GIVE), (1, GIVE)))
        cells = [("room", 0), MARK, ("return",)]
        self.assertIsNone(refusal(rows, cells, {0: (0, ())}))
        self.assertEqual(refusal(rows, cells, {0: (0, ()), 1: (1, ())}), (1, -1, 1))


class OwnPaperTest(unittest.TestCase):

    def test_own_papers_are_let_by(self):
        for seed in range(60):
            rows = make_rows(dice_of(seed), blocks=6)
            self.ask(rows, range(3, 9))
        for seed in range(6):
            dice = dice_of(seed)
            for unit in make_program(dice, nodes=60):
                self.ask(made_by_dice(dice, unit, 5)[0], (dice.randint(3, 8),))

    def ask(self, rows, all_registers):
        for registers in all_registers:
            for f, placing in enumerate(placed(rows, registers)):
                paper = paper_of(rows, f, registers)
                self.assertEqual(list(paper), sorted(paper))
                self.assertIsNone(judge(rows, f, registers, placing, paper))

    def test_a_paper_that_is_too_large(self):
        rows = rows_of(code("main", (0, GIVE)), code("f", (0, GIVE), slots=(400,) * 10 + (1,)))
        for f in range(2):
            self.assertRaises(TooLarge, paper_of, rows, f, 8)

    def test_more_pairs_that_follow(self):
        # each pair that holds wherever a block is come to may stand there, too
        for seed in range(12):
            rows = make_rows(dice_of(seed), blocks=5)
            for f, placing in enumerate(placed(rows, 5)):
                paper = paper_of(rows, f, 5)
                for block in paper:
                    at, held = paper[block]
                    if block == 0:
                        continue
                    for pair in [(register(r), t) for r in range(5) for t in (20, 21)]:
                        told = {**paper, block: (at, held + (pair,))}
                        answer = judge(rows, f, 5, placing, told)
                        self.assertEqual(answer, Judge2(rows, f, placing, told).judge())


class MutantsTest(unittest.TestCase):
    """Placings and papers with one thing otherwise, against a second reading, and against the machine."""

    def changed_cells(self, dice, cells, registers):
        cells = list(cells)
        at = dice.randrange(len(cells))
        roll = dice.random()
        if roll < 0.25:
            cells[at] = cells[dice.randrange(len(cells))]
        elif roll < 0.4:
            del cells[at]
            cells = [self.moved(cell, lambda goal: goal - (goal > at)) for cell in cells]
        elif roll < 0.55:
            cells = [self.moved(cell, lambda goal: goal + (goal > at)) for cell in cells]
            cells.insert(at + 1, ("jump", at + 2) if at + 1 < len(cells) and dice.random() < 0.5 else ("move", 1, 0))
        elif roll < 0.65:
            other = dice.randrange(len(cells))
            cells[at], cells[other] = cells[other], cells[at]
        else:
            told = list(cells[at])
            wholes = [k for k, part in enumerate(told) if isinstance(part, int)]
            if wholes:
                k = dice.choice(wholes)
                told[k] = max(0, told[k] + dice.choice((-1, 1)))
            cells[at] = tuple(told)
        return tuple(cells)

    def moved(self, cell, move):
        return cell[:-1] + (move(cell[-1]),) if cell[0] in ("jump", "unless") else cell

    def changed_paper(self, dice, paper, cells, registers, frame):
        paper = dict(paper)
        block = dice.choice(list(paper))
        if block == 0:
            return paper
        at, held = paper[block]
        roll = dice.random()
        if roll < 0.2:
            del paper[block]
        elif roll < 0.4:
            paper[block] = (min(len(cells) - 1, max(0, at + dice.choice((-2, -1, 1, 2)))), held)
        elif roll < 0.7 and held:
            paper[block] = (at, tuple(pair for pair in held if pair != dice.choice(held)))
        else:
            place = register(dice.randrange(registers)) if dice.random() < 0.6 else word(frame + dice.randrange(6))
            paper[block] = (at, held + ((place, dice.randrange(20, 26)),))
        return paper

    def test_mutants(self):
        refused = let_by = 0
        for seed in range(160):
            dice = dice_of(seed)
            rows = make_rows(dice, blocks=5, steps=5)
            registers = dice.randint(3, 8)
            placings = placed(rows, registers)
            for _ in range(8):
                f = dice.randrange(len(placings))
                cells, frame = placings[f]
                paper = paper_of(rows, f, registers)
                if dice.random() < 0.6:
                    cells = self.changed_cells(dice, cells, registers)
                else:
                    paper = self.changed_paper(dice, paper, cells, registers, frame)
                if not is_placing(rows, f, registers, (cells, frame)):
                    continue
                try:
                    answer = judge(rows, f, registers, (cells, frame), paper)
                except BadPaper:
                    continue
                self.assertEqual(answer, Judge2(rows, f, (cells, frame), paper).judge())
                refused += answer is not None
                let_by += answer is None
                if answer is None:
                    told = placings[:f] + [(cells, frame)] + placings[f + 1:]
                    self.runs_alike(rows, told, registers)
        self.assertGreater(refused, 300)
        self.assertGreater(let_by, 100)

    def runs_alike(self, rows, placings, registers):
        inputs = [3, 1, 4, 1, 5]
        machine, run = Machine(link([rows], [placings], registers), inputs, even_book(1)), RowRun([rows], inputs)
        run.go(40)
        trace = [item for item in run.trace() if item != ("failed", "astray")]
        machine.reach(len(trace), 20000)
        if machine.trace()[-1] != ("failed", "room"):
            self.assertEqual(machine.trace()[:len(trace)], trace)
