"""[50]: temps that are alive, and the shortest roads to where they are read."""

import unittest

from labelclocks.errors import BadFunction, BadRows, BadSpot, BadTemp
from labelclocks.liveness import alive_at, road_to_read
from labelclocks.lowering import lowered
from tests.checks import ODD_VALUES
from tests.madecode import make_rows
from tests.makers import dice_of, make_program
from tests.test_copying import all_temps
from tests.test_folding import goals, read_and_given
from tests.test_needing import read_last
from tests.test_rowruns import GIVE, S, code, main, rows_of, show

LOOP = rows_of(
    code("main", (0, ("jump", 1), ("const", 1, 0), ("const", 2, 3), ("const", 3, 1)),
         (None, ("test", 4, 2, 3), ("less", 4, 1, 2)),
         (2, ("call", 5, ("own", 1), (1,), 4), ("plus", 1, 1, 3)),
         (3, GIVE, show(1), ("not", 3, 3)),
         (4, ("jump", 1), show(5))),
    code("f", (0, ("give", 0)), params=(("worth", "number"),), result="number"))


def spots_behind(blocks, block, at):
    """What a spot reads and gives, and the spots behind it: the goals of an ending behind its call's t."""
    _, steps, ending = blocks[block]
    if at < len(steps):
        read, given = read_and_given(steps[at])
        return read, given, [(block, at + 1)]
    return read_last(ending), ending[1] if ending[0] == "call" else None, [(goal, 0) for goal in goals(ending)]


def shortest(blocks, block, at, temp):
    """How many blocks a shortest road has, None if there is none: by going from spot to spot."""
    best = {}
    waiting = [((block, at), 1)]
    while waiting:
        waiting.sort(key=lambda told: -told[1])
        spot, length = waiting.pop()
        if spot in best:
            continue
        best[spot] = length
        read, given, behind = spots_behind(blocks, *spot)
        if temp in read:
            return length
        if given != temp:
            for other in behind:
                waiting.append((other, length + (other[1] == 0)))
    return None


class LivenessTest(unittest.TestCase):

    def test_steps(self):
        rows = main(("const", 1, 2), ("plus", 1, 1, 1), ("ask", 2, S), show(1), ("const", 1, 0), show(2), show(1))
        told = [alive_at(rows, 0, 0, at) for at in range(8)]
        self.assertEqual(told, [(), (1,), (1,), (1, 2), (2,), (1, 2), (1,), ()])

    def test_a_loop_with_a_call(self):
        self.assertEqual(alive_at(LOOP, 0, 0, 0), ())
        self.assertEqual(alive_at(LOOP, 0, 0, 3), (1, 2, 3))
        self.assertEqual(alive_at(LOOP, 0, 1, 0), (1, 2, 3))
        self.assertEqual(alive_at(LOOP, 0, 1, 1), (1, 2, 3, 4))
        self.assertEqual(alive_at(LOOP, 0, 2, 1), (1, 2, 3))
        self.assertEqual(alive_at(LOOP, 0, 4, 0), (1, 2, 3, 5))
        self.assertEqual(alive_at(LOOP, 0, 3, 0), (1, 3))
        self.assertEqual(alive_at(LOOP, 0, 3, 1), (3,))
        self.assertEqual(alive_at(LOOP, 0, 3, 2), ())
        self.assertEqual(alive_at(LOOP, 1, 0, 0), (0,))

    def test_a_step_that_is_not_needed_reads_all_the_same(self):
        rows = main(("const", 1, 2), ("copy", 2, 1))
        self.assertEqual(alive_at(rows, 0, 0, 1), (1,))

    def test_roads(self):
        self.assertEqual(road_to_read(LOOP, 0, 0, 3, 2), [0, 1])
        self.assertEqual(road_to_read(LOOP, 0, 0, 3, 3), [0, 1, 2])
        self.assertEqual(road_to_read(LOOP, 0, 2, 1, 3), [2, 4, 1, 2])
        self.assertIn(road_to_read(LOOP, 0, 4, 0, 1), ([4, 1],))
        self.assertEqual(road_to_read(LOOP, 0, 4, 1, 5), None)
        self.assertEqual(road_to_read(LOOP, 0, 2, 0, 5), None)
        self.assertEqual(road_to_read(LOOP, 0, 4, 0, 5), [4])
        self.assertEqual(road_to_read(LOOP, 0, 2, 1, 1), [2])
        self.assertEqual(road_to_read(LOOP, 0, 0, 0, 1), None)
        self.assertEqual(road_to_read(LOOP, 0, 0, 3, 9999), None)
        self.assertEqual(road_to_read(LOOP, 1, 0, 0, 0), [0])

    def test_against_all_spots(self):
        for seed in range(80):
            rows = make_rows(dice_of(seed), blocks=6)
            for f in range(len(rows[5])):
                self.ask_code(rows, f, dice_of(seed))
        for seed in range(5):
            for unit in make_program(dice_of(seed), nodes=40, most_units=1):
                rows = lowered(unit)
                for f in range(len(rows[5])):
                    self.ask_code(rows, f, dice_of(seed))

    def ask_code(self, rows, f, dice):
        blocks = rows[5][f][4]
        temps = sorted(all_temps(blocks) | set(range(len(rows[5][f][1]))))
        spots = [(block, at) for block in range(len(blocks)) for at in range(len(blocks[block][1]) + 1)]
        for block, at in dice.sample(spots, min(6, len(spots))):
            lengths = {temp: shortest(blocks, block, at, temp) for temp in temps}
            self.assertEqual(
                alive_at(rows, f, block, at), tuple(temp for temp in temps if lengths[temp] is not None))
            for temp in dice.sample(temps, min(4, len(temps))):
                road = road_to_read(rows, f, block, at, temp)
                self.assertEqual(road and len(road), lengths[temp])
                if road is not None:
                    self.ask_road(blocks, block, at, temp, road)

    def ask_road(self, blocks, block, at, temp, road):
        self.assertEqual(road[0], block)
        for place, one in enumerate(road):
            first = at if place == 0 else 0
            told = [spots_behind(blocks, one, k)[:2] for k in range(first, len(blocks[one][1]) + 1)]
            is_read = [temp in read for read, _ in told]
            if place == len(road) - 1:
                self.assertNotIn(temp, [given for _, given in told[:is_read.index(True)]])
            else:
                self.assertFalse(any(is_read))
                self.assertNotIn(temp, [given for _, given in told])
                self.assertIn(road[place + 1], goals(blocks[one][2]))

    def test_errors_in_order(self):
        for function, more in ((alive_at, ()), (road_to_read, (None,))):
            for value in ODD_VALUES:
                self.assertRaises(BadRows, function, value, None, None, None, *more)
            for f in (2, -1, None, True, "0"):
                self.assertRaises(BadFunction, function, LOOP, f, None, None, *more)
            for block, at in ((5, 0), (-1, 0), (None, 0), (False, 0), (0, 4), (0, -1), (0, None), (0, True), ([], 0), (1, "0")):
                self.assertRaises(BadSpot, function, LOOP, 0, block, at, *more)
        for temp in (-1, 10000, None, True, "1", (1,)):
            self.assertRaises(BadTemp, road_to_read, LOOP, 0, 0, 0, temp)
        self.assertRaises(BadSpot, road_to_read, LOOP, 0, 0, 9, None)
