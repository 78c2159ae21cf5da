"""[44]: the pass ("thread",), and passes one behind another."""

import unittest

from labelclocks.lowering import lowered
from tests.agree import changed_by, does_same
from tests.madecode import make_rows
from tests.makers import dice_of, make_program
from tests.test_folding import goals
from tests.test_rowruns import GIVE, S, code, rows_of, show

WORDS = ("fold", "copies", "dead", "twice", "thread")
ONE = ("ask", 1, S)


def joined(*blocks):
    """The blocks behind the pass, without the function and way of their labels."""
    found = changed_by(rows_of(code("main", *blocks)), "thread")[5][0][4]
    return [(label and label[1], ending) + steps for label, steps, ending in found]


class ThreadTest(unittest.TestCase):

    def test_chains_of_jumps(self):
        # the goals of a jump are those at the end of blocks that only jump
        self.assertEqual(
            joined((0, ("test", 1, 1, 2), ONE), (1, ("jump", 3)), (2, ("jump", 4)), (None, ("jump", 4)), (None, ("jump", 5)),
                   (5, GIVE)),
            [(0, ("test", 1, 1, 2), ONE), (1, ("jump", 3)), (2, ("jump", 3)), (5, GIVE)])

    def test_blocks_with_steps_or_labels_are_no_parts_of_chains(self):
        self.assertEqual(
            joined((0, ("test", 1, 1, 2), ONE), (1, ("jump", 3)), (2, ("jump", 3)), (None, ("jump", 4), show(1)),
                   (None, ("jump", 5)), (5, ("jump", 6)), (6, GIVE)),
            [(0, ("test", 1, 1, 2), ONE), (1, ("jump", 3)), (2, ("jump", 3)), (None, ("jump", 4), show(1)),
             (5, ("jump", 5)), (6, GIVE)])

    def test_blocks_that_are_not_reached(self):
        self.assertEqual(joined((0, ("jump", 2)), (1, ("jump", 2)), (2, GIVE), (3, ("jump", 1))), [(0, ("jump", 1)), (2, GIVE)])
        # a goal of what is not reached does not count
        self.assertEqual(joined((0, ("jump", 2)), (1, ("jump", 2)), (None, GIVE, ONE)), [(0, GIVE, ONE)])

    def test_joins(self):
        self.assertEqual(
            joined((0, ("jump", 3), ONE), (1, GIVE), (None, ("fail", 2, S), show(1), show(1)), (None, ("jump", 2), show(1))),
            [(0, ("fail", 2, S), ONE, show(1), show(1), show(1))])
        # a block that is the goal of two jumps stays, and what follows it is joined to it
        self.assertEqual(
            joined((0, ("test", 1, 1, 2), ONE), (1, ("jump", 3)), (2, ("jump", 3)), (None, ("jump", 4), show(1)),
                   (None, GIVE, ONE)),
            [(0, ("test", 1, 1, 2), ONE), (1, ("jump", 3)), (2, ("jump", 3)), (None, GIVE, show(1), ONE)])

    def test_new_numbers_keep_the_old_order(self):
        self.assertEqual(
            joined((0, ("test", 1, 5, 2), ONE), (1, GIVE), (7, ("jump", 4), show(1)), (3, GIVE), (None, ("jump", 6), ONE),
                   (8, ("jump", 6)), (None, ("jump", 7)), (9, GIVE)),
            [(0, ("test", 1, 2, 1), ONE), (7, ("jump", 3), show(1), ONE), (8, ("jump", 3)), (9, GIVE)])

    def test_loops(self):
        self.assertEqual(
            joined((0, ("jump", 1), ONE), (None, ("test", 1, 2, 4)), (2, ("jump", 3)), (None, ("jump", 1), show(1)), (4, GIVE)),
            [(0, ("jump", 1), ONE), (None, ("test", 1, 2, 3)), (2, ("jump", 1), show(1)), (4, GIVE)])

    def test_form_and_runs(self):
        for seed in range(250):
            dice = dice_of(seed)
            rows = make_rows(dice, steps=dice.choice((0, 1, 6)))
            found = changed_by(rows, "thread")
            does_same(self, rows, found, [dice.randrange(20) for _ in range(6)], [1, 5, 20, 40])
            self.assertEqual(changed_by(found, "thread"), found)
            for told in found[5]:
                self.ask_threaded(told[4])

    def ask_threaded(self, blocks):
        all_goals = [goal for block in blocks for goal in goals(block[2])]
        self.assertEqual(set(all_goals) | {0}, set(range(len(blocks))))
        for label, steps, ending in blocks:
            if ending[0] == "jump":
                other = blocks[ending[1]]
                self.assertTrue(other[0] is not None or all_goals.count(ending[1]) > 1)
                self.assertFalse(other[0] is None and not other[1] and other[2][0] == "jump")

    def test_passes_one_behind_another(self):
        for seed in range(120):
            dice = dice_of(seed)
            rows = make_rows(dice, size=dice.choice((2, 10)))
            found = rows
            for _ in range(dice.randint(2, 7)):
                found = changed_by(found, dice.choice(WORDS))
            does_same(self, rows, found, [dice.randrange(20) for _ in range(6)], [1, 5, 20, 40])

    def test_passes_on_lowered_units(self):
        for seed in range(12):
            dice = dice_of(seed)
            for unit in make_program(dice, most_units=1):
                rows = lowered(unit)
                found = rows
                for word in ("fold", "twice", "copies", "dead", "thread", "fold", "copies", "dead", "thread"):
                    found = changed_by(found, word)
                does_same(self, rows, found, [dice.randrange(9999) for _ in range(6)], [1, 5, 20, 100])
