"""[40], [41]: known numbers, and the pass that folds by them."""

import unittest

from labelclocks.errors import BadFunction, BadRows
from labelclocks.folding import known
from labelclocks.lowering import lowered
from labelclocks.readtexts import unit_of
from tests.agree import changed_by, does_same
from tests.checks import ODD_VALUES
from tests.madecode import make_rows
from tests.makers import dice_of, make_program
from tests.test_rowruns import GIVE, S, code, main, rows_of, show


def goals(ending):
    return {"jump": ending[1:2], "test": ending[2:4], "call": ending[4:5]}.get(ending[0], ())


def read_and_given(step):
    """The temps that a step reads, and the one that it gives."""
    word = step[0]
    if word in ("save",):
        return step[1:3], None
    if word in ("check", "divisor"):
        return step[1:2], None
    if word == "show":
        return step[2:3], None
    if word == "clear":
        return (), None
    many = {"const": 0, "base": 0, "ask": 0, "copy": 1, "not": 1, "load": 1, "offset": 1}.get(word, 2)
    return step[2:2 + many], step[1]


class Second:
    """A second reading of [40]: all blocks are worked out anew from the last answer until nothing changes."""

    def __init__(self, size, blocks):
        self.size = size
        self.blocks = blocks
        self.begins = [None] * len(blocks)
        self.begins[0] = {}
        while True:
            following = self.next_begins()
            if following == self.begins:
                break
            self.begins = following

    def behind(self, step, told):
        read, given = read_and_given(step)
        numbers = [told.get(temp) for temp in read]
        told = {temp: n for temp, n in told.items() if temp != given}
        word = step[0]
        if word == "const":
            told[given] = step[2]
        elif word in ("load", "offset", "index", "base", "ask") or given is None or None in numbers:
            return told
        elif word == "copy":
            told[given] = numbers[0]
        elif word == "not":
            told[given] = 1 if numbers[0] == 0 else 0
        else:
            x, y = numbers
            if word in ("over", "rest") and y == 0:
                return told
            told[given] = {
                "plus": lambda: (x + y) % self.size, "minus": lambda: (x - y) % self.size,
                "times": lambda: x * y % self.size, "over": lambda: x // y, "rest": lambda: x % y,
                "less": lambda: int(x < y), "same": lambda: int(x == y), "and": lambda: int(x > 0 and y > 0),
                "or": lambda: int(x > 0 or y > 0)}[word]()
        return told

    def next_begins(self):
        coming = [[] for _ in self.blocks]
        coming[0].append({})
        for (_, steps, ending), told in zip(self.blocks, self.begins):
            if told is None:
                continue
            for step in steps:
                told = self.behind(step, told)
            if ending[0] == "test" and ending[1] in told:
                coming[ending[3] if told[ending[1]] == 0 else ending[2]].append(told)
            elif ending[0] == "test":
                coming[ending[2]].append(told)
                coming[ending[3]].append(told | {ending[1]: 0})
            else:
                for goal in goals(ending):
                    gone = ending[1] if ending[0] == "call" else None
                    coming[goal].append({temp: n for temp, n in told.items() if temp != gone})
        found = []
        for ways in coming:
            if not ways:
                found.append(None)
            else:
                found.append({t: n for t, n in ways[0].items() if all(way.get(t) == n for way in ways)})
        return found


class KnownTest(unittest.TestCase):

    def test_numbers_known_on_all_roads_and_on_one_alone(self):
        rows = rows_of(code(
            "main",
            (0, ("test", 1, 1, 2), ("ask", 1, S), ("const", 2, 3), ("copy", 4, 2)),
            (1, ("jump", 3), ("const", 3, 5), ("const", 5, 1)),
            (2, ("jump", 3), ("const", 3, 5), ("const", 5, 2)),
            (None, GIVE)))
        self.assertEqual(known(rows, 0), [{}, {2: 3, 4: 3}, {1: 0, 2: 3, 4: 3}, {2: 3, 3: 5, 4: 3}])

    def test_the_dict_is_ascending(self):
        rows = rows_of(code("main", (0, ("jump", 1), ("const", 9, 1), ("const", 3, 2), ("const", 7, 0)), (1, GIVE)))
        self.assertEqual(list(known(rows, 0)[1].items()), [(3, 2), (7, 0), (9, 1)])

    def test_a_test_of_a_known_temp_goes_one_way(self):
        for n, met in ((0, [2]), (1, [1]), (4, [1])):
            rows = rows_of(code("main", (0, ("test", 1, 1, 2), ("const", 1, n)), (1, GIVE), (2, GIVE)))
            self.assertEqual([at for at, told in enumerate(known(rows, 0)) if told is None], [3 - met[0]])
            self.assertEqual(known(rows, 0)[met[0]], {1: n})

    def test_loops(self):
        # temp 1 grows in the loop, 2 stays, and 3 is given what it was
        rows = rows_of(code(
            "main",
            (0, ("jump", 1), ("const", 1, 0), ("const", 2, 1), ("const", 3, 4)),
            (None, ("test", 4, 2, 3), ("less", 4, 1, 3)),
            (2, ("jump", 1), ("plus", 1, 1, 2), ("copy", 5, 3), ("copy", 3, 5)),
            (3, GIVE)))
        self.assertEqual(known(rows, 0), [{}, {2: 1, 3: 4}, {2: 1, 3: 4}, {2: 1, 3: 4, 4: 0}])

    def test_what_is_met_only_by_what_is_not(self):
        # the second arm would change 2, but it is met only if 2 was changed
        rows = rows_of(code(
            "main",
            (0, ("jump", 1), ("const", 2, 1)),
            (1, ("test", 2, 2, 3)),
            (2, ("jump", 1)),
            (3, ("jump", 1), ("const", 2, 5))))
        self.assertEqual(known(rows, 0), [{}, {2: 1}, {2: 1}, None])

    def test_blocks_that_no_road_leads_to(self):
        rows = rows_of(code("main", (0, GIVE), (1, ("jump", 2), ("const", 1, 1)), (2, GIVE)))
        self.assertEqual(known(rows, 0), [{}, None, None])

    def test_a_calls_result_is_not_known(self):
        f = code("f", (0, ("give", 0)), params=(("worth", "number"),), result="number")
        blocks = ((0, ("call", 1, ("own", 1), (2,), 1), ("const", 1, 3), ("const", 2, 3)), (1, GIVE))
        self.assertEqual(known(rows_of(code("main", *blocks), f), 0)[1], {2: 3})
        self.assertEqual(known(rows_of(code("main", *blocks), f), 1), [{}])
        blocks = ((0, ("call", None, ("own", 1), (2,), 1), ("const", 1, 3), ("const", 2, 3)), (1, GIVE))
        self.assertEqual(known(rows_of(code("main", *blocks), f), 0)[1], {1: 3, 2: 3})

    def value(self, *steps, size=10):
        rows = rows_of(code("main", (0, ("jump", 1)) + steps, (1, GIVE), slots=(3,)), size=size, stores=(("s", 4),))
        return known(rows, 0)[1]

    def test_all_steps(self):
        two = (("const", 1, 7), ("const", 2, 4))
        for word, n in (("plus", 1), ("minus", 3), ("times", 8), ("over", 1), ("rest", 3), ("less", 0), ("same", 0),
                        ("and", 1), ("or", 1)):
            self.assertEqual(self.value(*two, (word, 3, 1, 2))[3], n)
        self.assertEqual(self.value(*two, ("minus", 3, 2, 1))[3], 7)
        self.assertEqual(self.value(*two, ("not", 3, 1), ("not", 4, 3)), {1: 7, 2: 4, 3: 0, 4: 1})
        self.assertEqual(self.value(*two, ("plus", 1, 1, 2), ("plus", 1, 1, 2)), {1: 5, 2: 4})

    def test_what_is_not_known(self):
        nought = (("const", 1, 7), ("const", 2, 0), ("const", 3, 9))
        for word in ("over", "rest"):
            self.assertEqual(self.value(*nought, (word, 3, 1, 2)), {1: 7, 2: 0})
        base = (("const", 3, 9), ("base", 5, ("store", "s")))
        self.assertEqual(self.value(*base, ("load", 3, 5)), {})
        self.assertEqual(self.value(*base, ("ask", 3, S)), {})
        self.assertEqual(self.value(*base, ("save", 5, 3), ("copy", 6, 5), ("offset", 7, 5, 1)), {3: 9})
        self.assertEqual(self.value(("ask", 1, S), ("const", 2, 0), ("times", 3, 1, 2), ("and", 4, 1, 2)), {2: 0})
        self.assertEqual(self.value(("const", 2, 0), ("ask", 1, S), ("plus", 2, 2, 1)), {})

    def test_against_a_second_reading(self):
        known_temps = 0
        for seed in range(300):
            rows = make_rows(dice_of(seed), size=(2, 10)[seed % 2])
            for f, told in enumerate(rows[5]):
                self.assertEqual(known(rows, f), Second(rows[2], told[4]).begins)
                known_temps += sum(len(begin) for begin in known(rows, f) if begin)
        self.assertGreater(known_temps, 2000)
        for seed in range(25):
            for unit in make_program(dice_of(seed)):
                rows = lowered(unit)
                for f, told in enumerate(rows[5]):
                    self.assertEqual(known(rows, f), Second(rows[2], told[4]).begins)

    def test_wrong_values(self):
        rows = main()
        for value in ODD_VALUES:
            self.assertRaises(BadRows, known, value, 0)
        for value in (1, -1, True, None, "0", 0.0):
            self.assertRaises(BadFunction, known, rows, value)


class FoldTest(unittest.TestCase):

    def steps(self, *steps, size=10, ending=GIVE):
        rows = rows_of(code("main", (0, ending) + steps, slots=(60,)), size=size, stores=(("s", 4),))
        found = changed_by(rows, "fold")
        does_same(self, rows, found, [3], [50])
        return list(found[5][0][4][0][1])

    def test_numbers(self):
        two = (("const", 1, 7), ("const", 2, 4))
        self.assertEqual(
            self.steps(*two, ("copy", 3, 1), ("plus", 1, 1, 2), ("not", 2, 2), ("less", 4, 2, 1)),
            list(two) + [("const", 3, 7), ("const", 1, 1), ("const", 2, 0), ("const", 4, 1)])

    def test_what_stays(self):
        steps = (("ask", 1, S), ("const", 2, 0), ("times", 3, 1, 2), ("copy", 4, 1), ("not", 5, 1), ("const", 6, 3))
        self.assertEqual(self.steps(*steps), list(steps))
        for word in ("over", "rest"):
            self.assertEqual(self.steps(("const", 2, 0), (word, 3, 2, 2)), [("const", 2, 0), (word, 3, 2, 2)])

    def test_indexes(self):
        ahead = (("const", 1, 9), ("base", 2, ("slot", 0)))
        self.assertEqual(self.steps(*ahead, ("index", 3, 2, 1, 44, 4))[-1], ("offset", 3, 2, 400))
        self.assertEqual(self.steps(*ahead, ("index", 3, 2, 1, 44, 5))[-1], ("index", 3, 2, 1, 44, 5))
        self.assertEqual(self.steps(*ahead, ("index", 2, 2, 1, 5, 0))[-1], ("offset", 2, 2, 45))
        self.assertEqual(self.steps(("ask", 1, S), ahead[1], ("index", 3, 2, 1, 1, 0))[-1], ("index", 3, 2, 1, 1, 0))

    def test_checks_and_divisors(self):
        self.assertEqual(self.steps(("const", 1, 5), ("check", 1, 6, S), ("divisor", 1, S)), [("const", 1, 5)])
        for step in (("check", 1, 5, S), ("check", 1, 1, S)):
            self.assertEqual(self.steps(("const", 1, 5), step), [("const", 1, 5), step])
        steps = [("const", 1, 0), ("divisor", 1, S)]
        self.assertEqual(self.steps(*steps), steps)
        steps = [("ask", 1, S), ("check", 1, 9, S), ("divisor", 1, S)]
        self.assertEqual(self.steps(*steps), steps)

    def test_tests(self):
        for n, goal in ((0, 2), (1, 1), (9, 1)):
            rows = rows_of(code("main", (0, ("test", 1, 1, 2), ("const", 1, n)), (1, GIVE), (2, GIVE, show(1))))
            found = changed_by(rows, "fold")
            self.assertEqual(found[5][0][4][0][2], ("jump", goal))
            self.assertEqual(found[5][0][4][1:], rows[5][0][4][1:])
            does_same(self, rows, found, [], [9])

    def test_the_second_goal_of_a_test(self):
        rows = rows_of(code(
            "main", (0, ("test", 1, 1, 2), ("ask", 1, S)), (1, GIVE, ("copy", 2, 1)), (2, GIVE, ("not", 2, 1))))
        blocks = changed_by(rows, "fold")[5][0][4]
        self.assertEqual([block[1] for block in blocks[1:]], [(("copy", 2, 1),), (("const", 2, 1),)])

    def test_blocks_that_are_not_met_stay(self):
        steps = (("const", 1, 1), ("not", 1, 1))
        rows = rows_of(code("main", (0, ("test", 1, 1, 2)) + steps[:1], (1, GIVE), (2, GIVE) + steps, (3, GIVE) + steps))
        blocks = changed_by(rows, "fold")[5][0][4]
        self.assertEqual([block[1] for block in blocks[2:]], [steps, steps])

    def test_runs(self):
        for seed in range(200):
            dice = dice_of(seed)
            rows = make_rows(dice, size=dice.choice((2, 3, 10)))
            found = changed_by(rows, "fold")
            does_same(self, rows, found, [dice.randrange(20) for _ in range(6)], [1, 5, 20, 40])
