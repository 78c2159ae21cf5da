"""[42]: temps that are alike, and the pass that leaves out copies."""

import unittest

from labelclocks.copying import sources
from labelclocks.errors import BadFunction, BadRows
from labelclocks.lowering import lowered
from tests.agree import changed_by, does_same
from tests.checks import ODD_VALUES
from tests.madecode import make_rows
from tests.makers import dice_of, make_program
from tests.test_folding import goals, read_and_given
from tests.test_rowruns import GIVE, S, code, main, rows_of, show


def all_temps(blocks):
    found = set()
    for _, steps, ending in blocks:
        for step in steps:
            read, given = read_and_given(step)
            found.update(read, [given])
        if ending[0] == "call":
            found.update(ending[3], [ending[1]])
        elif ending[0] in ("test", "give"):
            found.add(ending[1])
    return found - {None}


def reached(blocks):
    found = [0]
    for at in found:
        found += [goal for goal in goals(blocks[at][2]) if goal not in found]
    return found


class Second:
    """A second reading: what is alike is a set of pairs, at first of all, and fewer by each round."""

    def __init__(self, blocks):
        self.blocks = blocks
        self.temps = sorted(all_temps(blocks))
        self.met = reached(blocks)
        everything = {(t, u) for t in self.temps for u in self.temps}
        self.begins = {at: everything for at in self.met}
        self.begins[0] = {(t, t) for t in self.temps}
        changed = True
        while changed:
            changed = False
            for at in self.met:
                told = self.begins[at] & self.incoming(at)
                changed = changed or told != self.begins[at]
                self.begins[at] = told

    def incoming(self, at):
        found = self.begins[at]
        for one in self.met:
            if at in goals(self.blocks[one][2]):
                found = found & self.behind(one)
        return found

    def alone(self, pairs, t):
        return {(x, y) for x, y in pairs if x == y or t not in (x, y)}

    def behind(self, at):
        _, steps, ending = self.blocks[at]
        pairs = self.begins[at]
        for step in steps:
            _, t = read_and_given(step)
            if step[0] == "copy" and (t, step[2]) in pairs:
                continue
            pairs = self.alone(pairs, t)
            if step[0] == "copy":
                group = [y for x, y in pairs if x == step[2]]
                pairs = pairs | {(t, y) for y in group} | {(y, t) for y in group}
        return self.alone(pairs, ending[1]) if ending[0] == "call" else pairs

    def sources(self):
        found = []
        for at in range(len(self.blocks)):
            if at not in self.met:
                found.append(None)
                continue
            least = {t: min(y for x, y in self.begins[at] if x == t) for t in self.temps}
            found.append({t: u for t, u in least.items() if u != t})
        return found


class SourcesTest(unittest.TestCase):

    def begin(self, *steps, result=None):
        """The sources behind these steps."""
        rows = rows_of(code("main", (0, ("jump", 1)) + steps, (1, GIVE), slots=(3,)), stores=(("s", 4),))
        return sources(rows, 0)[1]

    def test_copies(self):
        one = ("ask", 5, S)
        self.assertEqual(self.begin(one, ("copy", 3, 5)), {5: 3})
        self.assertEqual(self.begin(one, ("copy", 7, 5)), {7: 5})
        self.assertEqual(self.begin(one, ("copy", 7, 5), ("copy", 6, 7)), {6: 5, 7: 5})
        self.assertEqual(self.begin(one, ("copy", 7, 5), ("copy", 2, 7)), {5: 2, 7: 2})
        self.assertEqual(self.begin(one, ("copy", 7, 5), ("copy", 5, 7)), {7: 5})
        self.assertEqual(self.begin(one, ("copy", 5, 5)), {})

    def test_temps_that_are_given_anew(self):
        group = (("ask", 5, S), ("copy", 6, 5), ("copy", 7, 6))
        self.assertEqual(self.begin(*group, ("const", 6, 1)), {7: 5})
        self.assertEqual(self.begin(*group, ("const", 5, 1)), {7: 6})
        self.assertEqual(self.begin(*group, ("not", 7, 7)), {6: 5})
        self.assertEqual(self.begin(*group, ("ask", 1, S), ("copy", 5, 1)), {5: 1, 7: 6})
        self.assertEqual(self.begin(*group, ("ask", 9, S), ("copy", 5, 9), ("copy", 6, 9)), {6: 5, 9: 5})

    def test_a_call(self):
        f = code("f", (0, ("give", 0)), params=(("worth", "number"),), result="number")
        ahead = (("ask", 1, S), ("copy", 2, 1), ("copy", 3, 1))
        for t, told in ((2, {3: 1}), (1, {3: 2}), (None, {2: 1, 3: 1}), (9, {2: 1, 3: 1})):
            rows = rows_of(code("main", (0, ("call", t, ("own", 1), (1,), 1)) + ahead, (1, GIVE)), f)
            self.assertEqual(sources(rows, 0), [{}, told])

    def test_all_roads_tell_so(self):
        rows = rows_of(code(
            "main",
            (0, ("test", 1, 1, 2), ("ask", 1, S), ("copy", 2, 1), ("copy", 3, 1)),
            (1, ("jump", 3), ("const", 2, 4)),
            (2, ("jump", 3), ("copy", 4, 3)),
            (None, GIVE), (5, GIVE)))
        alike = {2: 1, 3: 1}
        self.assertEqual(sources(rows, 0), [{}, alike, alike, {3: 1}, None])

    def test_parts_of_groups(self):
        rows = rows_of(code(
            "main",
            (0, ("test", 1, 1, 2), ("ask", 1, S), ("ask", 2, S)),
            (1, ("jump", 3), ("copy", 3, 1), ("copy", 4, 1), ("copy", 5, 2), ("copy", 6, 2)),
            (2, ("jump", 3), ("copy", 3, 2), ("copy", 4, 2), ("copy", 5, 1), ("copy", 6, 2)),
            (None, GIVE)))
        self.assertEqual(sources(rows, 0)[3], {4: 3, 6: 2})

    def test_copies_round_rings(self):
        # what is alike ahead of the loop stays so in it, though the loop copies it to and fro
        rows = rows_of(code(
            "main",
            (0, ("jump", 1), ("ask", 1, S), ("copy", 2, 1), ("copy", 3, 2)),
            (None, ("test", 1, 2, 3)),
            (2, ("jump", 1), ("copy", 3, 1), ("copy", 2, 3)),
            (3, GIVE)))
        alike = {2: 1, 3: 1}
        self.assertEqual(sources(rows, 0), [{}, alike, alike, alike])
        found = changed_by(rows, "copies")
        self.assertEqual([block[1] for block in found[5][0][4][1:]], [(), (), ()])
        rows = rows_of(code(
            "main",
            (0, ("jump", 1), ("ask", 1, S), ("copy", 2, 1), ("copy", 3, 2)),
            (None, ("test", 1, 2, 3)),
            (2, ("jump", 1), ("ask", 1, S), ("copy", 3, 2)),
            (3, GIVE)))
        self.assertEqual(sources(rows, 0)[1:], [{3: 2}, {3: 2}, {3: 2}])

    def test_against_a_second_reading(self):
        alike = 0
        for seed in range(300):
            rows = make_rows(dice_of(seed), steps=(4, 8)[seed % 2])
            for f, told in enumerate(rows[5]):
                answer = sources(rows, f)
                self.assertEqual(answer, Second(told[4]).sources())
                for begin in answer:
                    self.assertEqual(list(begin or {}), sorted(begin or {}))
                alike += sum(len(begin) for begin in answer if begin)
        self.assertGreater(alike, 400)
        for seed in range(6):
            for unit in make_program(dice_of(seed), nodes=40):
                rows = lowered(unit)
                for f, told in enumerate(rows[5]):
                    self.assertEqual(sources(rows, f), Second(told[4]).sources())

    def test_wrong_values(self):
        rows = main()
        for value in ODD_VALUES:
            self.assertRaises(BadRows, sources, value, 0)
        for value in (1, -1, False, None, "0"):
            self.assertRaises(BadFunction, sources, rows, value)


class CopiesTest(unittest.TestCase):

    def block(self, *steps, ending=GIVE, more=(), **heads):
        rows = rows_of(code("main", (0, ending) + steps, *more, slots=(3,)), stores=(("s", 4),), **heads)
        found = changed_by(rows, "copies")
        does_same(self, rows, found, [3, 7], [1, 1, 1, 50])
        return list(found[5][0][4][0][1]), found[5][0][4][0][2]

    def test_copies_of_what_is_alike_are_left_out(self):
        one, two = ("ask", 1, S), ("copy", 2, 1)
        self.assertEqual(self.block(one, two, ("copy", 1, 2), two, ("copy", 1, 1))[0], [one, two])
        self.assertEqual(self.block(one, ("copy", 1, 1))[0], [one])
        other = [one, two, ("const", 1, 4), two]
        self.assertEqual(self.block(*other)[0], other)

    def test_sources_are_read(self):
        one, two = ("ask", 1, S), ("copy", 2, 1)
        self.assertEqual(
            self.block(one, two, ("plus", 3, 2, 2), ("not", 2, 2), show(2))[0],
            [one, two, ("plus", 3, 1, 1), ("not", 2, 1), show(2)])
        self.assertEqual(self.block(one, two, ("copy", 4, 2), show(4))[0], [one, two, ("copy", 4, 1), show(1)])
        self.assertEqual(
            self.block(one, ("copy", 0, 1), show(1), ("check", 1, 9, S), ("divisor", 1, S))[0],
            [one, ("copy", 0, 1), show(0), ("check", 0, 9, S), ("divisor", 0, S)])

    def test_addresses(self):
        steps = (("base", 4, ("store", "s")), ("copy", 5, 4), ("ask", 1, S), ("copy", 2, 1))
        self.assertEqual(
            self.block(*steps, ("save", 5, 2), ("load", 6, 5), ("offset", 5, 5, 1), ("index", 7, 5, 2, 1, 0))[0],
            list(steps) + [("save", 4, 1), ("load", 6, 4), ("offset", 5, 4, 1), ("index", 7, 5, 1, 1, 0)])

    def test_endings(self):
        steps = (("ask", 1, S), ("copy", 2, 1))
        self.assertEqual(self.block(*steps, ending=("test", 2, 1, 2), more=((1, GIVE), (2, GIVE)))[1], ("test", 1, 1, 2))
        f = code("f", (0, ("give", 3), ("copy", 3, 0)), params=(("worth", "number"),), result="number")
        for ending, told in ((("call", 2, ("own", 1), (2,), 1), ("call", 2, ("own", 1), (1,), 1)),):
            rows = rows_of(code("main", (0, ending) + steps, (1, GIVE, show(2))), f)
            found = changed_by(rows, "copies")
            does_same(self, rows, found, [3], [50])
            self.assertEqual(found[5][0][4][0][2], told)
            self.assertEqual(found[5][1][4][0][1:], ((("copy", 3, 0),), ("give", 0)))
        g = code("g", (0, ("last", ("own", 1), (4,)), ("copy", 4, 0)), params=(("worth", "number"),), result="number")
        self.assertEqual(changed_by(rows_of(code("main", (0, GIVE)), f, g), "copies")[5][2][4][0][2][2], (0,))

    def test_blocks_that_are_not_reached_stay(self):
        steps = (("ask", 1, S), ("copy", 2, 1), ("copy", 2, 1), show(2))
        rows = rows_of(code("main", (0, GIVE), (1, GIVE) + steps))
        self.assertEqual(changed_by(rows, "copies"), rows)

    def test_runs(self):
        changed = 0
        for seed in range(250):
            dice = dice_of(seed)
            rows = make_rows(dice, size=dice.choice((2, 10)))
            found = changed_by(rows, "copies")
            changed += found != rows
            does_same(self, rows, found, [dice.randrange(20) for _ in range(6)], [1, 5, 20, 40])
        self.assertGreater(changed, 100)
