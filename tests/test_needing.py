"""[43]: needed temps, and the passes ("dead",) and ("twice",)."""

import unittest

from labelclocks.errors import BadFunction, BadRows
from labelclocks.lowering import lowered
from labelclocks.needing import needed
from tests.agree import changed_by, does_same
from tests.checks import ODD_VALUES
from tests.madecode import make_rows
from tests.makers import dice_of, make_program
from tests.test_folding import goals, read_and_given
from tests.test_rowruns import GIVE, S, code, main, rows_of, show

STAY = ("save", "clear", "check", "divisor", "show", "ask")


def read_last(ending):
    return {"test": ending[1:2], "give": ending[1:2], "call": ending[3:4] and ending[3], "last": ending[2:3] and ending[2]}.get(
        ending[0], ())


def second(blocks):
    """A second reading: nothing is needed at first, and all is worked out anew until nothing changes."""
    begins = [set() for _ in blocks]
    while True:
        found = []
        for _, steps, ending in blocks:
            told = set()
            for goal in goals(ending):
                told |= begins[goal]
            if ending[0] == "call":
                told -= {ending[1]}
            told |= {temp for temp in read_last(ending) if temp is not None}
            for step in steps[::-1]:
                read, given = read_and_given(step)
                if step[0] in STAY or given in told:
                    told = told - {given} | set(read)
            found.append(told)
        if found == begins:
            return [sorted(told) for told in begins]
        begins = found


class NeededTest(unittest.TestCase):

    def begin(self, *steps, ending=GIVE):
        """What is needed ahead of these steps, temps 1 to 4 being worths, 8 and 9 addresses given ahead."""
        ahead = tuple(("const", t, t) for t in (1, 2, 3, 4)) + tuple(("base", t, ("slot", 0)) for t in (8, 9))
        rows = rows_of(code(
            "main", (0, ("jump", 1)) + ahead, (1, ending) + steps, (2, GIVE), (3, GIVE), slots=(4,)))
        return needed(rows, 0)[1]

    def test_steps_that_stay(self):
        self.assertEqual(self.begin(show(3)), [3])
        self.assertEqual(self.begin(("save", 8, 2)), [2, 8])
        self.assertEqual(self.begin(("check", 2, 3, S), ("divisor", 4, S), ("clear", 0)), [2, 4])
        self.assertEqual(self.begin(("ask", 2, S), show(2)), [])
        self.assertEqual(self.begin(show(2), ("ask", 2, S), show(1)), [1, 2])

    def test_steps_that_stay_only_if_they_are_needed(self):
        for step in (("plus", 3, 1, 2), ("over", 3, 1, 2), ("less", 3, 1, 2)):
            self.assertEqual(self.begin(step), [])
            self.assertEqual(self.begin(step, show(3)), [1, 2])
            self.assertEqual(self.begin(step, ("const", 3, 0), show(3)), [])
        self.assertEqual(self.begin(("load", 3, 8), show(3)), [8])
        self.assertEqual(self.begin(("load", 3, 8)), [])
        self.assertEqual(self.begin(("index", 9, 8, 1, 1, 0), ("save", 9, 2)), [1, 2, 8])
        self.assertEqual(self.begin(("copy", 2, 1), ("copy", 3, 2), ("copy", 4, 3)), [])
        self.assertEqual(self.begin(("plus", 2, 2, 1), show(2)), [1, 2])

    def test_endings(self):
        self.assertEqual(self.begin(ending=("test", 4, 2, 3)), [4])
        self.assertEqual(self.begin(("const", 4, 0), ending=("test", 4, 2, 3)), [])
        self.assertEqual(self.begin(ending=("fail", 1, S)), [])

    def test_calls(self):
        f = code("f", (0, ("give", 0)), params=(("worth", "number"), ("worth", "truth")), result="number")
        ahead = (("const", 1, 1), ("const", 2, 2), ("const", 3, 3))
        blocks = ((0, ("jump", 1)) + ahead, (1, ("call", 3, ("own", 1), (2, 1), 2)), (2, GIVE, show(3), show(2)))
        self.assertEqual(needed(rows_of(code("main", *blocks), f), 0), [[], [1, 2], [2, 3]])
        self.assertEqual(needed(rows_of(code("main", *blocks), f), 1), [[0]])
        g = code("g", (0, ("last", ("own", 1), (1, 0))), params=(("worth", "truth"), ("worth", "number")), result="number")
        self.assertEqual(needed(rows_of(code("main", *blocks), f, g), 2), [[0, 1]])

    def test_loops_that_only_keep_themselves_going(self):
        # 1 and 2 are given of one another in the loop, and nobody else reads them
        rows = rows_of(code(
            "main",
            (0, ("jump", 1), ("const", 1, 1), ("const", 2, 2), ("const", 3, 3)),
            (None, ("test", 3, 2, 3)),
            (2, ("jump", 1), ("plus", 1, 1, 2), ("plus", 2, 1, 2), ("ask", 3, S)),
            (3, GIVE)))
        self.assertEqual(needed(rows, 0), [[], [3], [], []])
        self.assertEqual(changed_by(rows, "dead")[5][0][4][2][1], (("ask", 3, S),))

    def test_blocks_that_are_not_reached(self):
        rows = rows_of(code("main", (0, GIVE), (1, ("jump", 2)), (None, GIVE, show(7))))
        self.assertEqual(needed(rows, 0), [[], [7], [7]])

    def test_against_a_second_reading(self):
        for seed in range(300):
            rows = make_rows(dice_of(seed))
            for f, told in enumerate(rows[5]):
                self.assertEqual(needed(rows, f), second(told[4]))
        for seed in range(25):
            for unit in make_program(dice_of(seed)):
                rows = lowered(unit)
                for f, told in enumerate(rows[5]):
                    self.assertEqual(needed(rows, f), second(told[4]))

    def test_wrong_values(self):
        rows = main()
        for value in ODD_VALUES:
            self.assertRaises(BadRows, needed, value, 0)
        for value in (1, -1, False, None, "0"):
            self.assertRaises(BadFunction, needed, rows, value)


class DeadTest(unittest.TestCase):

    def test_steps_that_are_not_needed(self):
        steps = (
            ("ask", 1, S), ("const", 2, 4), ("plus", 3, 1, 2), ("times", 4, 3, 3), ("over", 5, 1, 2), ("base", 6, ("slot", 0)),
            ("clear", 0), ("load", 7, 6), ("ask", 8, S), show(3))
        rows = rows_of(code("main", (0, GIVE) + steps, slots=(2,)))
        found = changed_by(rows, "dead")
        self.assertEqual(found[5][0][4][0][1], (("ask", 1, S), ("const", 2, 4), ("plus", 3, 1, 2), ("ask", 8, S), show(3)))
        does_same(self, rows, found, [5, 6], [30])

    def test_clears(self):
        steps = (
            ("clear", 0), ("clear", 1), ("base", 1, ("slot", 1)), ("base", 2, ("slot", 0)), ("const", 3, 4), ("save", 1, 3))
        rows = rows_of(code("main", (0, GIVE) + steps, slots=(2, 2)))
        self.assertEqual(changed_by(rows, "dead")[5][0][4][0][1], (steps[1], steps[2], steps[4], steps[5]))
        # a base anywhere in the code keeps all clears of its slot, a base of another code's slot none
        rows = rows_of(
            code("main", (0, GIVE, ("clear", 0)), (1, GIVE) + steps[1:], slots=(2, 2)),
            code("f", (0, GIVE, ("clear", 1)), slots=(2, 2)))
        found = changed_by(rows, "dead")
        self.assertEqual([block[1] for block in found[5][0][4]], [(), (steps[1], steps[2], steps[4], steps[5])])
        self.assertEqual(found[5][1][4][0][1], ())

    def test_results_that_are_not_needed(self):
        f = code("f", (0, ("give", 0)), params=(("worth", "number"),), result="number")
        for goal, told in (((1, GIVE), None), ((1, GIVE, show(2)), 2), ((1, GIVE, ("const", 2, 0), show(2)), None)):
            rows = rows_of(code("main", (0, ("call", 2, ("own", 1), (1,), 1), ("const", 1, 3)), goal), f)
            found = changed_by(rows, "dead")
            self.assertEqual(found[5][0][4][0][2], ("call", told, ("own", 1), (1,), 1))
            does_same(self, rows, found, [], [9])
        rows = rows_of(code("main", (0, ("call", None, ("own", 1), (1,), 1), ("const", 1, 3)), (1, GIVE)), f)
        self.assertEqual(changed_by(rows, "dead"), rows)

    def test_runs(self):
        for seed in range(200):
            dice = dice_of(seed)
            rows = make_rows(dice)
            does_same(self, rows, changed_by(rows, "dead"), [dice.randrange(20) for _ in range(6)], [1, 5, 20, 40])


class TwiceTest(unittest.TestCase):

    def steps(self, *steps):
        """What is left of these steps; temps 1, 2 and 3 are worths asked, 8 and 9 addresses."""
        ahead = tuple(("ask", t, S) for t in (1, 2, 3)) + (("base", 8, ("slot", 0)), ("base", 9, ("slot", 1)))
        clears = (("clear", 0), ("clear", 1))
        rows = rows_of(code("main", (0, ("jump", 1)) + clears + ahead, (1, GIVE) + steps, slots=(9, 9)), stores=(("s", 3),))
        found = changed_by(rows, "twice")
        does_same(self, rows, found, [3, 4, 2], [30])
        self.assertEqual(found[5][0][4][0], rows[5][0][4][0])
        return list(found[5][0][4][1][1])

    def test_the_same_words_and_temps(self):
        for word in ("plus", "minus", "times", "less", "same", "and", "or", "over", "rest"):
            self.assertEqual(
                self.steps((word, 4, 1, 2), (word, 5, 1, 2), show(5)), [(word, 4, 1, 2), ("copy", 5, 4), show(5)])
            told = [(word, 4, 1, 2), (word, 5, 2, 1), show(5)]
            if word in ("plus", "times", "same", "and", "or"):
                told[1] = ("copy", 5, 4)
            self.assertEqual(self.steps((word, 4, 1, 2), (word, 5, 2, 1), show(5)), told)
        self.assertEqual(self.steps(("not", 4, 1), ("not", 5, 1)), [("not", 4, 1), ("copy", 5, 4)])
        self.assertEqual(self.steps(("plus", 0, 1, 2), ("plus", 5, 2, 1)), [("plus", 0, 1, 2), ("copy", 5, 0)])
        for ahead in (("base", 6, ("slot", 0)), ("offset", 6, 8, 2), ("index", 6, 8, 1, 2, 1), ("load", 6, 8)):
            again = (ahead[0], 7) + ahead[2:]
            self.assertEqual(self.steps(ahead, again), [ahead, ("copy", 7, 6)])

    def test_what_asks_something_else(self):
        for one, other in (
                (("plus", 4, 1, 2), ("plus", 5, 1, 3)), (("offset", 6, 8, 2), ("offset", 7, 8, 1)),
                (("index", 6, 8, 1, 2, 1), ("index", 7, 8, 1, 1, 1)), (("index", 6, 8, 1, 2, 1), ("index", 7, 8, 1, 2, 0)),
                (("base", 6, ("slot", 0)), ("base", 7, ("store", "s"))), (("less", 4, 1, 2), ("minus", 5, 1, 2)), (("less", 4, 1, 2), ("same", 5, 1, 2)),
                (("ask", 4, S), ("ask", 5, S)), (("const", 4, 1), ("const", 5, 1)), (("copy", 4, 1), ("copy", 5, 1))):
            self.assertEqual(self.steps(one, other), [one, other])

    def test_changes_between(self):
        one, two = ("plus", 4, 1, 2), ("plus", 5, 1, 2)
        self.assertEqual(self.steps(one, ("const", 2, 7), two), [one, ("const", 2, 7), two])
        self.assertEqual(self.steps(one, ("const", 4, 7), two), [one, ("const", 4, 7), two])
        self.assertEqual(self.steps(one, ("const", 6, 7), two), [one, ("const", 6, 7), ("copy", 5, 4)])
        self.assertEqual(self.steps(("plus", 1, 1, 2), ("plus", 5, 1, 2)), [("plus", 1, 1, 2), ("plus", 5, 1, 2)])
        # the first one of several that still holds
        told = self.steps(one, two, ("const", 4, 0), ("plus", 6, 2, 1), ("plus", 7, 1, 2))
        self.assertEqual(told, [one, ("copy", 5, 4), ("const", 4, 0), ("copy", 6, 5), ("copy", 7, 5)])

    def test_the_steps_ahead_of_the_pass_count(self):
        # 5 is given by a step that becomes a copy, and still asks what it asked
        told = self.steps(("plus", 4, 1, 2), ("plus", 5, 1, 2), ("const", 4, 9), ("plus", 6, 1, 2))
        self.assertEqual(told[3], ("copy", 6, 5))

    def test_steps_that_are_left_out(self):
        self.assertEqual(self.steps(("plus", 4, 1, 2), ("plus", 4, 2, 1), show(4)), [("plus", 4, 1, 2), show(4)])
        self.assertEqual(self.steps(("load", 4, 8), ("load", 4, 8)), [("load", 4, 8)])

    def test_loads(self):
        for between in (("save", 9, 1), ("save", 8, 1), ("clear", 1)):
            told = [("load", 4, 8), between, ("load", 5, 8)]
            self.assertEqual(self.steps(*told), told)
        told = self.steps(("plus", 4, 1, 2), ("save", 8, 1), ("clear", 1), ("plus", 5, 1, 2))
        self.assertEqual(told[3], ("copy", 5, 4))
        told = self.steps(("save", 8, 1), ("load", 4, 8), show(4), ("load", 5, 8))
        self.assertEqual(told, [("save", 8, 1), ("load", 4, 8), show(4), ("copy", 5, 4)])
        told = [("load", 4, 8), ("load", 5, 9)]
        self.assertEqual(self.steps(*told), told)

    def test_checks(self):
        one = ("check", 1, 5, S)
        for many, told in ((5, [one]), (6, [one]), (4, [one, ("check", 1, 4, (0, 9))])):
            self.assertEqual(self.steps(one, ("check", 1, many, (0, 9))), told)
        told = [one, ("const", 1, 3), one]
        self.assertEqual(self.steps(*told), told)
        told = [one, ("check", 2, 5, S)]
        self.assertEqual(self.steps(*told), told)
        told = [("check", 1, 9, S), ("check", 1, 5, S), ("check", 1, 7, S)]
        self.assertEqual(self.steps(*told), told[:2])
        told = [("check", 1, 5, S), ("check", 1, 9, S), ("check", 1, 7, S)]
        self.assertEqual(self.steps(*told), told[:1])

    def test_divisors(self):
        one = ("divisor", 1, S)
        self.assertEqual(self.steps(one, ("divisor", 1, (0, 9)), one), [one])
        told = [one, ("const", 1, 3), one, ("divisor", 2, S)]
        self.assertEqual(self.steps(*told), told)
        told = [one, ("check", 1, 7, S)]
        self.assertEqual(self.steps(*told), told)

    def test_each_block_by_itself(self):
        step = ("plus", 4, 1, 1)
        rows = rows_of(code("main", (0, ("jump", 1), ("ask", 1, S), step), (1, GIVE, ("plus", 5, 1, 1))))
        self.assertEqual(changed_by(rows, "twice"), rows)

    def test_runs(self):
        for seed in range(250):
            dice = dice_of(seed)
            rows = make_rows(dice, steps=14, blocks=5)
            does_same(self, rows, changed_by(rows, "twice"), [dice.randrange(20) for _ in range(6)], [1, 5, 20, 40])

    def test_many_steps(self):
        steps = [("ask", 1, S), ("ask", 2, S)] + [("plus", 3 + at, 1, 2) for at in range(7000)]
        rows = rows_of(code("main", (0, GIVE, *steps)))
        self.assertEqual(changed_by(rows, "twice")[5][0][4][0][1][3:], tuple(("copy", 4 + at, 3) for at in range(6999)))
