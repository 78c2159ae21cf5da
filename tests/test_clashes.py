"""[51], [52]: clashes, temps across calls, held temps, and the core."""

import unittest

from labelclocks.clashes import across, clashes, core, held_temps
from labelclocks.errors import BadFunction, BadRegisters, BadRows
from labelclocks.liveness import alive_at
from labelclocks.lowering import lowered
from tests.checks import ODD_VALUES
from tests.madecode import make_rows
from tests.makers import dice_of, make_program
from tests.test_copying import reached
from tests.test_folding import goals, read_and_given
from tests.test_rowruns import GIVE, S, code, main, rows_of, show

NUMBER = ("worth", "number")


class Second:
    """A second reading of [51] and [52], spot by spot."""

    def __init__(self, rows, f):
        self.alive = lambda block, at: alive_at(rows, f, block, at)
        self.pairs = set()
        self.across = set()
        params = set(range(len(rows[5][f][1]))) & set(self.alive(0, 0))
        self.held = set(params)
        self.add_all(params, params)
        blocks = rows[5][f][4]
        for block in reached(blocks):
            _, steps, ending = blocks[block]
            for at, step in enumerate(steps):
                given = read_and_given(step)[1]
                if given is not None:
                    self.held.add(given)
                    spared = step[2] if step[0] == "copy" else given
                    self.add_all([given], set(self.alive(block, at + 1)) - {spared})
            if ending[0] == "call":
                behind = set(self.alive(goals(ending)[0], 0))
                self.across |= behind - {ending[1]}
                if ending[1] is not None:
                    self.held.add(ending[1])
                    self.add_all([ending[1]], behind)

    def add_all(self, some, others):
        self.pairs |= {(min(t, u), max(t, u)) for t in some for u in others if t != u}

    def core(self, registers, dice):
        left = self.held - self.across
        while True:
            free = [t for t in sorted(left) if self.many(t, left) < registers - 2]
            if not free:
                return tuple(sorted(left))
            left = left - {dice.choice(free)}

    def many(self, t, left):
        return len([1 for pair in self.pairs if t in pair and set(pair) - {t} <= left])


class ClashesTest(unittest.TestCase):

    def test_steps(self):
        rows = main(("const", 1, 1), ("const", 2, 2), ("const", 3, 3), ("plus", 4, 1, 2), show(4), show(3))
        self.assertEqual(clashes(rows, 0), [(1, 2), (1, 3), (2, 3), (3, 4)])
        # what is given and never read clashes with what is alive behind it
        rows = main(("const", 1, 1), ("const", 2, 2), show(1))
        self.assertEqual(clashes(rows, 0), [(1, 2)])
        rows = main(("const", 2, 2), ("const", 1, 1), show(1))
        self.assertEqual(clashes(rows, 0), [])

    def test_copies_do_not_clash_by_themselves(self):
        rows = main(("const", 1, 1), ("copy", 2, 1), show(1), show(2))
        self.assertEqual(clashes(rows, 0), [])
        rows = main(("const", 1, 1), ("copy", 2, 1), ("copy", 3, 2), show(1), show(2), show(3))
        self.assertEqual(clashes(rows, 0), [(1, 3)])
        rows = main(("const", 1, 1), ("copy", 2, 1), ("const", 1, 4), show(1), show(2))
        self.assertEqual(clashes(rows, 0), [(1, 2)])

    def test_calls(self):
        f = code("f", (0, ("give", 0)), params=(NUMBER,), result="number")
        steps = (("const", 1, 1), ("const", 2, 2))
        for t, pairs, held in ((3, [(1, 2), (2, 3)], (1, 2, 3)), (None, [(1, 2)], (1, 2)), (2, [(1, 2)], (1, 2))):
            rows = rows_of(code("main", (0, ("call", t, ("own", 1), (1,), 1)) + steps, (1, GIVE, show(2))), f)
            self.assertEqual(clashes(rows, 0), pairs)
            self.assertEqual(across(rows, 0), (2,) if t != 2 else ())
            self.assertEqual(held_temps(rows, 0), held)
        self.assertEqual((clashes(rows, 1), across(rows, 1), held_temps(rows, 1)), ([], (), (0,)))

    def test_params(self):
        params = (NUMBER, NUMBER, ("place", "number"), NUMBER)
        f = code("f", (0, GIVE, show(0), ("const", 1, 2), show(1), ("load", 7, 2)), params=params)
        rows = rows_of(code("main", (0, GIVE)), f)
        self.assertEqual(clashes(rows, 1), [(0, 2), (1, 2)])
        self.assertEqual(held_temps(rows, 1), (0, 1, 2, 7))
        f = code("f", (0, GIVE, show(0), show(1), show(3)), params=params)
        rows = rows_of(code("main", (0, GIVE)), f)
        self.assertEqual(clashes(rows, 1), [(0, 1), (0, 3), (1, 3)])
        self.assertEqual(held_temps(rows, 1), (0, 1, 3))

    def test_blocks_that_are_not_met(self):
        rows = rows_of(code(
            "main", (0, GIVE, ("const", 1, 1)), (1, ("jump", 2), ("const", 2, 2), ("const", 3, 3)), (2, GIVE, show(2), show(3)),
            (3, ("call", None, ("own", 0), (), 4), ("const", 5, 5)), (4, GIVE, show(5))))
        self.assertEqual((clashes(rows, 0), across(rows, 0), held_temps(rows, 0)), ([], (), (1,)))

    def test_loops(self):
        rows = rows_of(code(
            "main", (0, ("jump", 1), ("const", 1, 1), ("const", 2, 2)), (None, ("test", 1, 2, 3)),
            (2, ("jump", 1), ("minus", 1, 1, 2)), (3, GIVE)))
        self.assertEqual(clashes(rows, 0), [(1, 2)])

    def test_the_core(self):
        # four temps that all clash, and one that clashes with two of them
        steps = tuple(("ask", t, S) for t in (1, 2, 3, 4)) + (show(4), show(3), ("ask", 5, S), show(5), show(1), show(2))
        rows = main(*steps)
        self.assertEqual([core(rows, 0, registers) for registers in range(3, 9)], [
            (1, 2, 3, 4, 5), (1, 2, 3, 4, 5), (1, 2, 3, 4), (), (), ()])

    def test_temps_across_calls_are_not_in_the_core(self):
        steps = tuple(("ask", t, S) for t in (1, 2, 3, 4))
        blocks = ((0, ("call", None, ("own", 0), (), 1)) + steps + (show(3), show(4)), (1, GIVE, show(1), show(2)))
        rows = rows_of(code("main", *blocks))
        self.assertEqual(across(rows, 0), (1, 2))
        self.assertEqual([core(rows, 0, registers) for registers in (3, 4)], [(3, 4), ()])

    def test_against_a_second_reading(self):
        for seed in range(60):
            dice = dice_of(seed)
            rows = make_rows(dice, blocks=5)
            self.ask(rows, dice)
        for seed in range(4):
            for unit in make_program(dice_of(seed), nodes=50, most_units=1):
                self.ask(lowered(unit), dice_of(seed))

    def ask(self, rows, dice):
        for f in range(len(rows[5])):
            second = Second(rows, f)
            self.assertEqual(clashes(rows, f), sorted(second.pairs))
            self.assertEqual(across(rows, f), tuple(sorted(second.across)))
            self.assertEqual(held_temps(rows, f), tuple(sorted(second.held)))
            last = None
            for registers in range(3, 9):
                told = core(rows, f, registers)
                self.assertEqual(told, second.core(registers, dice))
                self.assertTrue(all(second.many(t, set(told)) >= registers - 2 for t in told))
                self.assertTrue(last is None or set(told) <= set(last))
                last = told

    def test_errors_in_order(self):
        rows = main()
        for function in (clashes, across, held_temps):
            for value in ODD_VALUES:
                self.assertRaises(BadRows, function, value, None)
            for f in (1, -1, None, False, "0"):
                self.assertRaises(BadFunction, function, rows, f)
        self.assertRaises(BadRows, core, None, None, None)
        self.assertRaises(BadFunction, core, rows, 1, None)
        for registers in (2, 9, None, True, "3", -1):
            self.assertRaises(BadRegisters, core, rows, 0, registers)
