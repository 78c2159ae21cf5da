"""[68]: led code, clause by clause."""

import unittest

from labelclocks.errors import BadObject
from labelclocks.led import is_led
from labelclocks.objects import is_object
from tests.checks import ODD_VALUES
from tests.compile import objects_by_dice
from tests.link import is_led as is_led_code
from tests.makers import dice_of, make_program
from tests.test_linking import cells_of, thing


def mark(k):
    return ("mark", (0, k, ()))


END = ("return",)
SHOW = ("show", 0, 0, (0, 0))


class LedTest(unittest.TestCase):

    def led(self, told, *cells, more=()):
        made = thing(functions=(("main", cells_of(0, *cells)),) + tuple(more))
        self.assertIs(is_object(made), True)
        self.assertIs(is_led(made), told, cells)
        if not more:
            self.assertIs(is_led_code(cells_of(0, *cells)), told)

    def test_led(self):
        self.led(True, END)
        self.led(True, SHOW, mark(1), SHOW, mark(2), END)
        # both ways of an unless, straight and by jumps
        self.led(True, ("unless", 0, 5), mark(1), END, mark(2), END)
        self.led(True, ("unless", 0, 6), ("jump", 4), ("jump", 7), END, ("jump", 9), mark(1), END, mark(2), END)
        # a call, and a loop
        self.led(True, ("call", ("own", 0), 0), mark(1), END)
        # a mark to which several ways of falling and jumps lead
        self.led(True, mark(1), SHOW, ("unless", 0, 7), mark(2), ("jump", 2), mark(3), ("fail", 0, (0, 1)))
        self.led(True, ("jump", 4), SHOW, mark(1), END)

    def test_goals_of_an_unless(self):
        self.led(False, ("unless", 0, 5), mark(1), END, SHOW, mark(2), END)
        self.led(False, ("unless", 0, 5), mark(1), END, END)
        self.led(False, ("unless", 0, 5), SHOW, END, mark(2), END)
        self.led(False, ("unless", 0, 5), END, END, mark(2), END)
        self.led(False, ("unless", 0, 5), mark(1), END, ("jump", 6), SHOW, mark(2), END)

    def test_behind_a_call(self):
        self.led(False, ("call", ("own", 0), 0), SHOW, mark(1), END)
        self.led(False, ("call", ("own", 0), 0), END)
        self.led(True, ("call", ("own", 0), 0), ("jump", 4), mark(1), END)
        self.led(False, ("call", ("own", 0), 0), ("call", ("own", 0), 0), mark(1), END)

    def test_no_other_way(self):
        # by falling, by a jump, by another unless, to the mark and to a jump ahead of it
        self.led(False, ("unless", 0, 5), mark(1), SHOW, mark(2), END)
        self.led(False, ("unless", 0, 6), mark(1), ("jump", 6), END, mark(2), END)
        self.led(False, ("unless", 0, 7), mark(1), ("unless", 0, 7), mark(3), END, mark(2), END)
        self.led(False, ("unless", 0, 7), mark(1), SHOW, ("jump", 7), END, ("jump", 8), mark(2), END)
        self.led(True, ("unless", 0, 6), mark(1), SHOW, END, ("jump", 7), mark(2), END)
        self.led(False, ("unless", 0, 6), mark(1), SHOW, ("jump", 7), ("jump", 7), mark(2), END)
        # a loop back to the mark behind an unless, or behind a call
        self.led(False, ("unless", 0, 6), mark(1), SHOW, ("jump", 3), mark(2), END)
        self.led(False, ("call", ("own", 0), 0), mark(1), SHOW, ("jump", 3))
        # also one from where nothing leads
        self.led(False, ("unless", 0, 6), mark(1), END, ("jump", 6), mark(2), END)

    def test_the_door(self):
        self.led(False, mark(1), ("jump", 1))
        self.led(False, mark(1), ("jump", 0))
        self.led(False, ("unless", 0, 1), mark(1), END)
        self.led(False, ("unless", 0, 0), mark(1), END)
        self.led(True, mark(1), ("jump", 2))

    def test_rings(self):
        self.led(False, ("jump", 2))
        self.led(False, SHOW, SHOW, ("jump", 2))
        self.led(False, END, ("jump", 4), ("jump", 3))
        self.led(True, mark(1), SHOW, SHOW, ("jump", 2))
        self.led(False, SHOW, mark(1), SHOW, SHOW, ("jump", 5))

    def test_beyond_the_last_cell(self):
        self.led(False)
        self.led(False, SHOW)
        self.led(False, mark(1))
        self.led(False, ("call", ("own", 0), 0))
        self.led(False, ("unless", 0, 3), mark(1))
        for last in (END, ("last", ("own", 0)), ("fail", 1, (0, 0))):
            self.led(True, last)

    def test_an_unless_to_the_cell_behind(self):
        self.led(False, ("unless", 0, 3), mark(1), END)
        self.led(False, ("unless", 0, 3), ("jump", 4), mark(1), END)

    def test_each_function_counts(self):
        right = ("f", cells_of(1, END))
        self.led(True, END, more=(right,))
        self.led(False, END, more=(right, ("g", cells_of(2, SHOW))))
        self.led(False, SHOW, more=(right,))

    def test_against_a_second_one(self):
        many = {True: 0, False: 0}
        for seed in range(4000):
            dice = dice_of(seed)
            cells = []
            length = dice.randint(1, 10)
            for k in range(length):
                goal = dice.randint(2, length + 1)
                cells.append(dice.choice((
                    mark(k + 1), mark(k + 1), mark(k + 1), SHOW, ("jump", goal), ("unless", 0, goal), ("call", ("own", 0), 0), END)))
            made = thing(functions=(("main", cells_of(0, *cells)),))
            told = is_led(made)
            self.assertIs(told, is_led_code(cells_of(0, *cells)), cells)
            many[told] += 1
        self.assertGreater(min(many.values()), 100, many)

    def test_compiled_objects(self):
        for seed in range(25):
            dice = dice_of(seed)
            for made in objects_by_dice(dice, make_program(dice, nodes=70, most_units=3)):
                self.assertIs(is_led(made), True)
                # one jump otherwise, and one cell less
                name, params, result, frame, cells = made[6][0]
                self.assertIs(is_led(made[:6] + (((name, params, result, frame, cells[:-1]),) + made[6][1:],) + made[7:]), False)

    def test_wrong_values(self):
        for value in ODD_VALUES:
            self.assertRaises(BadObject, is_led, value)


if __name__ == "__main__":
    unittest.main()
