"""[82]: how much room calls need."""

import unittest

from labelclocks.books import even_book
from labelclocks.compiling import compiled
from labelclocks.errors import BadChain, BadObjects, Missing, NoMain, Twice, Unlike, UnlikeSizes
from labelclocks.needs import depth_of, needed
from labelclocks.readtexts import program_of
from tests.checks import ODD_VALUES
from tests.compile import machine_of, objects_by_dice, two
from tests.makers import dice_of, make_program
from tests.test_linking import NUMBER, cells_of, thing

# main calls f twice and v.h, f calls g in the end, g calls nothing
DEEP = program_of("""
unit u size 10
use v.h(place number)
function main()
function f(worth n number)
function g(place p number)
body main
  local x number
  ask x
  call f(x)
  call v.h(x)
  if (x < 3)
    call f(2)
body f
  local r row 5 number
  r[0] = n
  call g(r[0])
  show 0 r[0]
body g
  p = (p + 1)
unit v size 10
store s number
function h(place p number)
function i(worth n number)
body h
  local k number
  k = (p + 2)
  call i(k)
body i
  local r row 9 number
  r[n] = n
  show 1 r[n]
""")


def f_with(name, f, frame, *cells):
    return (name, (), None, frame, cells_of(f, *cells, frame=frame))


def all_chains(objects, main, most):
    """All chains of at most so many links, from what cells call on which a code leads: a second reading."""
    names = {made[1]: [function[0] for function in made[6]] for made in objects}
    things = {made[1]: made for made in objects}
    chains = [[("call", main, names[main].index("main"))]]
    for chain in chains:
        if len(chain) < most:
            unit, f = chain[-1][1:]
            cells = things[unit][6][f][4]
            reached, waiting = {0}, [0]
            while waiting:
                at = waiting.pop()
                goals = {"jump": [cells[at][-1]], "unless": [at + 1, cells[at][-1]]}.get(cells[at][0], [at + 1])
                for goal in [] if cells[at][0] in ("last", "return", "fail") else goals:
                    if goal < len(cells) and goal not in reached:
                        reached.add(goal)
                        waiting.append(goal)
            for at in sorted(reached):
                if cells[at][0] in ("call", "last"):
                    kind, i = cells[at][1]
                    link = (cells[at][0], unit, i)
                    if kind == "use":
                        v, function = things[unit][4][i][:2]
                        link = (cells[at][0], v, names[v].index(function))
                    chains.append(chain + [link])
    return chains


def depth(objects, chain):
    """A second reading of the stack and the room of a chain."""
    frames = {(made[1], f): function[3] for made in objects for f, function in enumerate(made[6])}
    stack = 2
    for ahead, link in zip(chain, chain[1:]):
        if link[0] == "call":
            stack += frames[ahead[1:]] + 2
    return stack + frames[chain[-1][1:]] + 6


class NeededTest(unittest.TestCase):

    def ask(self, objects, main):
        """Asks an answer all that can be asked of it; tells its word."""
        told = needed(objects, main)
        if told[0] == "room":
            _, number, chain = told
            self.assertIsInstance(chain, list)
            self.assertEqual(depth_of(objects, main, chain), number)
            self.assertEqual(depth(objects, chain), number)
        else:
            word, chain, ring = told
            self.assertEqual(word, "grows")
            self.assertEqual(depth_of(objects, main, chain), depth(objects, chain))
            self.assertEqual(ring[0], chain[-1])
            self.assertEqual(ring[-1][1:], ring[0][1:])
            self.assertIn("call", [link[0] for link in ring[1:]])
            # the ring can be gone over again and again, and each time more is needed
            depths = [depth_of(objects, main, chain + ring[1:] * times) for times in range(4)]
            self.assertEqual(depths, sorted(set(depths)))
        return told[0]

    def test_one_function(self):
        self.assertEqual(needed([thing("u", (f_with("main", 0, 5, ("return",)),))], "u"), ("room", 13, [("call", "u", 0)]))

    def test_calls(self):
        objects = [compiled(unit) for unit in DEEP]
        self.assertEqual(self.ask(objects, "u"), "room")
        _, number, chain = needed(objects=objects, main="u")
        self.assertEqual(number, max(depth(objects, other) for other in all_chains(objects, "u", 6)))
        self.assertEqual(chain[0], ("call", "u", 0))
        self.assertEqual(needed(objects[::-1], "u")[1], number)

    def test_calls_in_last_place(self):
        # main calls f, which goes on as g, whose frame is large; g goes on as f: a ring that does not grow
        main = f_with("main", 0, 3, ("call", ("own", 1), 3), ("mark", (0, 1, ())), ("return",))
        f = f_with("f", 1, 10, ("unless", 0, 4), ("return",), ("last", ("own", 2)))
        g = f_with("g", 2, 40, ("last", ("own", 1)))
        told = needed([thing("u", (main, f, g))], "u")
        self.assertEqual(told, ("room", 2 + 5 + 40 + 6, [("call", "u", 0), ("call", "u", 1), ("last", "u", 2)]))
        # one of both by a call
        g = f_with("g", 2, 40, ("call", ("own", 1), 40), ("mark", (2, 1, ())), ("return",))
        self.assertEqual(self.ask([thing("u", (main, f, g))], "u"), "grows")

    def test_growing_rings(self):
        own = f_with("main", 0, 0, ("call", ("own", 0), 0), ("mark", (0, 1, ())), ("return",))
        self.assertEqual(needed([thing("u", (own,))], "u"), ("grows", [("call", "u", 0)], [("call", "u", 0), ("call", "u", 0)]))
        self.assertEqual(self.ask([compiled(unit) for unit in two()], "u"), "grows")
        last = f_with("main", 0, 0, ("last", ("own", 0)))
        self.assertEqual(needed([thing("u", (last,))], "u"), ("room", 8, [("call", "u", 0)]))
        # a ring to which nothing leads
        lone = f_with("f", 1, 0, ("call", ("own", 1), 0), ("mark", (1, 1, ())), ("return",))
        self.assertEqual(self.ask([thing("u", (last, lone))], "u"), "room")

    def test_cells_that_are_not_reached(self):
        main = f_with("main", 0, 3, ("return",), ("call", ("own", 1), 3), ("return",))
        f = f_with("f", 1, 100, ("return",))
        self.assertEqual(needed([thing("u", (main, f))], "u"), ("room", 11, [("call", "u", 0)]))
        self.assertRaises(BadChain, depth_of, [thing("u", (main, f))], "u", [("call", "u", 0), ("call", "u", 1)])
        # behind a call the code goes on, as if it came back; also beyond the last cell
        main = f_with("main", 0, 3, ("call", ("own", 2), 3), ("call", ("own", 1), 3))
        g = f_with("g", 2, 0, ("fail", 1, (2, 0)))
        self.assertEqual(needed([thing("u", (main, f, g))], "u")[1], 2 + 5 + 100 + 6)

    def test_by_dice(self):
        words = {"room": 0, "grows": 0}
        for seed in range(60):
            dice = dice_of(seed)
            program = make_program(dice, nodes=50, most_units=3)
            objects = objects_by_dice(dice, program)
            main = program[0][0]
            words[self.ask(objects, main)] += 1
            told = needed(objects, main)
            if told[0] == "room":
                self.assertEqual(told[1], max(depth(objects, chain) for chain in all_chains(objects, main, 5) + [told[2]]))
        self.assertGreater(min(words.values()), 8, words)

    def test_the_room_is_enough(self):
        asked, failed = 0, 0
        for seed in range(40):
            dice = dice_of(seed)
            program = DEEP if seed % 4 == 0 else make_program(dice, nodes=50, most_units=3)
            objects = objects_by_dice(dice, program)
            main = program[0][0]
            told = needed(objects, main)
            if told[0] != "room" or not 8 <= told[1] <= 20000:
                continue
            inputs = [dice.randrange(10000) for _ in range(5)]
            run = machine_of(objects, main, inputs, even_book(1), 5000, told[1])
            asked += 1
            self.assertNotEqual(run.trace()[-1:], [("failed", "room")])
            more = machine_of(objects, main, inputs, even_book(1), 5000, 20000)
            self.assertEqual(run.trace(), more.trace())
            if told[1] > 8:
                less = machine_of(objects, main, inputs, even_book(1), 5000, told[1] - 1)
                failed += less.trace()[-1:] == [("failed", "room")]
        self.assertGreater(asked, 15)
        self.assertGreater(failed, 5)

    def test_with_less_the_told_chain_fails(self):
        objects = [compiled(unit) for unit in DEEP]
        _, number, chain = needed(objects, "u")
        depths = [depth_of(objects, "u", chain[:many]) for many in range(1, len(chain) + 1)]
        self.assertEqual(depths[-1], number)
        for room in range(max(8, depths[0]), number):
            run = machine_of(objects, "u", [3], even_book(1), 5000, room)
            self.assertEqual(run.trace()[-1], ("failed", "room"))


class DepthTest(unittest.TestCase):

    def test_chains(self):
        objects = [compiled(unit, [("fold",), ("dead",)], 4) for unit in DEEP]
        chains = all_chains(objects, "u", 5)
        self.assertGreater(len(chains), 4)
        for chain in chains:
            self.assertEqual(depth_of(objects, "u", chain), depth(objects, chain))
            self.assertEqual(depth_of(objects=objects, main="u", chain=tuple(chain)), depth(objects, chain))

    def test_no_chains(self):
        objects = [compiled(unit) for unit in DEEP]
        first = ("call", "u", 0)
        for value in ODD_VALUES + (
                [], first, [("last", "u", 0)], [("call", "v", 0)], [("call", "u", 1)], [first, first], [first, ("last", "u", 1)], [first, ("call", "u", 2)],
                [first, ("call", "v", 1)], [first, ("call", "x", 0)], [first, ("call", "u", 9)], [first, ("call", "u", True)], [("call", "u", False)],
                [first, ["call", "u", 1]], [first, ("call", "u")], [first, ("call", "u", 1, 0)], [first, None], [list(first)], [first, ("call", "u", 1), first],
                [first, ([], "u", 1)], [first, ("call", [], 1)], [first, ("call", "u", [])], {first: 1}, [("call", "u", 1), first]):
            self.assertRaises(BadChain, depth_of, objects, "u", value)
        self.assertTrue(depth_of(objects, "u", [first, ("call", "u", 1), ("call", "u", 2)]))

    def test_errors_in_order(self):
        u = thing("u", uses=(("v", "f", NUMBER, None),))
        for function, more in ((needed, ()), (depth_of, (7,))):
            for value in ODD_VALUES + ([], [u, None], [u] * 7):
                self.assertRaises(BadObjects, function, value, None, *more)
            self.assertRaises(UnlikeSizes, function, [u, u, thing("w", size=9)], None, *more)
            self.assertRaises(Twice, function, [u, u], None, *more)
            for main in (None, "v", 5, []):
                self.assertRaises(NoMain, function, [u], main, *more)
            self.assertRaises(Missing, function, [u], "u", *more)
            self.assertRaises(Unlike, function, [u, thing("v", (f_with("f", 0, 0),))], "u", *more)


if __name__ == "__main__":
    unittest.main()
