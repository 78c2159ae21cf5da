"""[35]: rings without labels and temps that are lacking; is_rows of rows.py."""

import unittest

from labelclocks.errors import BadFunction, BadRows
from labelclocks.given import lacking, unmarked
from labelclocks.loose import is_loose
from labelclocks.rows import is_rows
from labelclocks.steps import goals_of
from tests.checks import ODD_VALUES
from tests.lower import lower
from tests.makers import dice_of, make_program
from tests.test_loose import PARAMS, STATION, rows_of

GIVE = ("give", None)


def blocks_with(*told):
    """Blocks of pairs (ending, steps) or triples (ending, steps, False if it has no label)."""
    blocks = []
    for at, (ending, *rest) in enumerate(told):
        steps = rest[0] if rest else ()
        bare = len(rest) > 1 and not rest[1]
        blocks.append((None if bare else (0, at, ()), tuple(steps), ending))
    return tuple(blocks)


def bare(ending, *steps):
    return ending, steps, False


class RingsTest(unittest.TestCase):

    def ask(self, *told):
        rows = rows_of(blocks=blocks_with(*told))
        self.assertTrue(is_loose(rows))
        ring = unmarked(rows, 0)
        if ring is None:
            return None
        blocks = rows[5][0][4]
        self.assertTrue(ring)
        self.assertEqual(len(set(ring)), len(ring))
        for one, other in zip(ring, ring[1:] + ring[:1]):
            self.assertIsNone(blocks[one][0])
            self.assertIn(other, goals_of(blocks[one][2]))
        return sorted(ring)

    def test_none(self):
        self.assertIsNone(self.ask((GIVE,)))
        self.assertIsNone(self.ask((("jump", 0),)))
        self.assertIsNone(self.ask((("jump", 1),), bare(("jump", 0))))
        self.assertIsNone(self.ask((("jump", 1),), bare(("jump", 2)), bare(("jump", 3)), bare(("jump", 0))))
        self.assertIsNone(self.ask((("jump", 1),), bare(("test", 1, 2, 3)), bare(("jump", 3)), bare(GIVE)))

    def test_rings(self):
        self.assertEqual(self.ask((("jump", 1),), bare(("jump", 1))), [1])
        self.assertEqual(self.ask((("jump", 1),), bare(("jump", 2)), bare(("jump", 1))), [1, 2])
        self.assertEqual(self.ask((GIVE,), bare(("jump", 2)), bare(("jump", 3)), bare(("jump", 2))), [2, 3])
        self.assertEqual(self.ask((GIVE,), bare(("test", 1, 0, 2)), bare(("test", 1, 1, 0))), [1, 2])
        self.assertEqual(self.ask((GIVE,), bare(("call", None, ("own", 2), (), 1))), [1])
        self.assertEqual(self.ask(bare(("jump", 0))), [0])

    def test_a_long_ring(self):
        told = [(("jump", 1),)] + [bare(("jump", at + 1)) for at in range(1, 399)] + [bare(("jump", 1))]
        self.assertEqual(self.ask(*told), list(range(1, 400)))

    def test_a_label_opens_a_ring(self):
        told = [(("jump", 1),)] + [bare(("jump", at + 1)) for at in range(1, 399)] + [(("jump", 1),)]
        self.assertIsNone(self.ask(*told))

    def test_other_codes(self):
        rows = rows_of(blocks=blocks_with(bare(("jump", 0))))
        self.assertEqual(unmarked(rows, 0), [0])
        self.assertIsNone(unmarked(rows, 1))
        self.assertIsNone(unmarked(rows=rows, f=2))


class LackingTest(unittest.TestCase):

    def ask(self, *told, params=(), result=None):
        """The temps that are asked of, as they are told one at a time; None if nothing lacks."""
        rows = rows_of(blocks=blocks_with(*told), params=params, result=result)
        self.assertTrue(is_loose(rows))
        found = lacking(rows, 0)
        if found is None:
            return None
        temp, road = found
        self.ask_road(rows[5][0], temp, road)
        return temp

    def ask_road(self, code, temp, road):
        """Whether the road leads to a reading of the temp without giving it; told by [33], word by word."""
        self.assertGreaterEqual(temp, len(code[1]))
        self.assertEqual(road[0], 0)
        for one, other in zip(road, road[1:]):
            self.assertIn(other, goals_of(code[4][one][2]))
            self.assertNotIn(temp, self.gifts(code[4][one]))
        self.assertTrue(self.reads(code[4][road[-1]], temp))

    def gifts(self, block):
        givers = [step for step in block[1] if step[0] not in ("save", "clear", "check", "divisor", "show")]
        return [step[1] for step in givers] + ([block[2][1]] if block[2][0] == "call" else [])

    def reads(self, block, temp):
        """Whether a block reads a temp that it has not given ahead."""
        places = {
            "const": (), "copy": (2,), "not": (2,), "base": (), "offset": (2,), "index": (2, 3), "load": (2,), "save": (1, 2),
            "clear": (), "check": (1,), "divisor": (1,), "show": (2,), "ask": ()}
        for step in block[1]:
            if temp in [step[at] for at in places.get(step[0], (2, 3))]:
                return True
            if step[0] not in ("save", "clear", "check", "divisor", "show") and step[1] == temp:
                return False
        ending = block[2]
        told = {"test": ending[1:2], "give": ending[1:2], "call": ending[3:4], "last": ending[2:3]}.get(ending[0], ())
        return temp in told or any(isinstance(part, tuple) and temp in part for part in told)

    def test_each_step_and_ending_reads(self):
        for step in (
                ("copy", 9, 5), ("not", 9, 5), ("plus", 9, 5, 8), ("or", 9, 8, 5), ("offset", 9, 5, 1),
                ("index", 9, 5, 8, 1, 0), ("index", 9, 7, 5, 1, 0), ("load", 9, 5), ("save", 5, 8), ("save", 7, 5),
                ("check", 5, 1, STATION), ("divisor", 5, STATION), ("show", 0, 5, STATION)):
            worth = [("const", 8, 1), ("base", 7, ("slot", 0))]
            self.assertEqual(self.ask((GIVE, worth + [step])), 5, step)
        self.assertEqual(self.ask((("test", 5, 1, 2),), (GIVE,), (GIVE,)), 5)
        self.assertEqual(self.ask((("give", 5),), result="number"), 5)
        ahead = [("const", 8, 1), ("base", 7, ("slot", 0))]
        self.assertEqual(self.ask((("call", 9, ("own", 1), (5, 7), 1), ahead), (GIVE,)), 5)
        self.assertEqual(self.ask((("call", 9, ("own", 1), (8, 5), 1), ahead), (GIVE,)), 5)
        self.assertEqual(self.ask((("last", ("own", 1), (8, 5)), ahead), result="number"), 5)

    def test_each_step_gives(self):
        for step, reading in (
                (("const", 5, 1), ("not", 9, 5)), (("copy", 5, 8), ("not", 9, 5)), (("not", 5, 8), ("not", 9, 5)),
                (("plus", 5, 8, 8), ("not", 9, 5)), (("base", 5, ("slot", 0)), ("load", 9, 5)),
                (("offset", 5, 7, 1), ("load", 9, 5)), (("index", 5, 7, 8, 1, 0), ("load", 9, 5)),
                (("load", 5, 7), ("not", 9, 5)), (("ask", 5, STATION), ("not", 9, 5))):
            ahead = [("const", 8, 1), ("base", 7, ("slot", 0))]
            self.assertIsNone(self.ask((GIVE, ahead + [step, reading])), step)
            self.assertEqual(self.ask((GIVE, ahead + [reading, step])), 5, step)

    def test_a_step_reads_ahead_of_giving(self):
        self.assertEqual(self.ask((GIVE, [("not", 5, 5)])), 5)
        self.assertEqual(self.ask((GIVE, [("plus", 5, 5, 5)])), 5)

    def test_one_road_of_several(self):
        told = [
            (("test", 1, 1, 2), [("const", 1, 1)]), (("jump", 3), [("const", 5, 1)]), (("jump", 3),), (GIVE, [("not", 9, 5)])]
        self.assertEqual(self.ask(*told), 5)
        told[2] = (("jump", 3), [("const", 5, 2)])
        self.assertIsNone(self.ask(*told))
        told[1] = (("jump", 3),)
        self.assertEqual(self.ask(*told), 5)

    def test_a_temp_given_in_a_loop(self):
        told = [
            (("jump", 1), [("const", 1, 1)]), (("test", 1, 2, 3),), (("jump", 1), [("const", 5, 1)]), (GIVE, [("not", 9, 5)])]
        self.assertEqual(self.ask(*told), 5)
        told[0] = (("jump", 1), [("const", 1, 1), ("const", 5, 1)])
        self.assertIsNone(self.ask(*told))

    def test_params_are_given(self):
        self.assertIsNone(self.ask((GIVE, [("not", 9, 0), ("load", 8, 1)]), params=PARAMS))
        self.assertEqual(self.ask((GIVE, [("not", 9, 2)]), params=PARAMS), 2)

    def test_the_temp_of_a_call(self):
        call = ("call", 5, ("own", 1), (8, 7), 1)
        ahead = [("const", 8, 1), ("base", 7, ("slot", 0))]
        self.assertIsNone(self.ask((call, ahead), (GIVE, [("not", 9, 5)])))
        # it is given at the end of the block, behind the reading of the args
        self.assertEqual(self.ask((("call", 5, ("own", 1), (5, 7), 1), ahead[1:]), (GIVE,)), 5)
        self.assertEqual(self.ask((("call", None, ("own", 1), (8, 7), 1), ahead), (GIVE, [("not", 9, 5)])), 5)

    def test_blocks_to_which_no_road_leads(self):
        self.assertIsNone(self.ask((GIVE,), (GIVE, [("not", 9, 5)])))
        self.assertIsNone(self.ask((GIVE,), (("jump", 2),), (("jump", 1), [("not", 9, 5)])))

    def test_errors(self):
        for ask in (unmarked, lacking):
            for value in ODD_VALUES + (list(rows_of()), rows_of((("const", 1, 10),))):
                self.assertRaises(BadRows, ask, value, 0)
            self.assertRaises(BadRows, ask, None, None)
            for f in (3, -1, True, None, "0", 10 ** 99, [0]):
                self.assertRaises(BadFunction, ask, rows_of(), f)
        self.assertIsNone(lacking(rows=rows_of(), f=2))


class RowsTest(unittest.TestCase):

    def right(self, *told, **more):
        self.assertIs(is_rows(rows_of(blocks=blocks_with(*told), **more)), True)

    def wrong(self, *told, **more):
        rows = rows_of(blocks=blocks_with(*told), **more)
        self.assertTrue(is_loose(rows))
        self.assertIs(is_rows(rows), False)

    def test_loose(self):
        for value in ODD_VALUES + (list(rows_of()), rows_of((("const", 1, 10),))):
            self.assertIs(is_rows(value), False)
        self.assertIs(is_rows(value=rows_of()), True)

    def test_rings_and_lacks(self):
        self.right((("jump", 1),), bare(GIVE))
        self.wrong((GIVE,), bare(("jump", 1)))
        self.wrong((GIVE, [("not", 9, 5)]))
        self.right((GIVE,), (GIVE, [("not", 9, 5)]))

    def test_in_all_codes(self):
        code = ("m", (), None, (), (((3, 0, ()), (("not", 1, 2),), GIVE),))
        self.assertIs(is_loose(rows_of(more=(code,))), True)
        self.assertIs(is_rows(rows_of(more=(code,))), False)

    def test_no_label_stands_twice(self):
        same = ((0, 0, ()), (), GIVE)
        self.assertIs(is_rows(rows_of(blocks=(same, same))), False)
        self.assertIs(is_rows(rows_of(blocks=(same, ((0, 0, (("at", 0, 0),)), (), GIVE)))), True)
        self.assertIs(is_rows(rows_of(blocks=(((1, 0, ()), (), GIVE),))), False)
        self.assertIs(is_rows(rows_of(blocks=(same, (None, (), GIVE), (None, (), GIVE)))), True)

    def test_block_zero(self):
        self.wrong(bare(GIVE))
        self.wrong((("jump", 0),))
        self.wrong((GIVE,), (("jump", 0),))
        self.wrong((("test", 1, 0, 1), [("const", 1, 1)]), (GIVE,))

    def test_goals_of_tests(self):
        const = [("const", 1, 1)]
        self.right((("test", 1, 1, 2), const), (GIVE,), (GIVE,))
        self.wrong((("test", 1, 1, 1), const), (GIVE,))
        self.wrong((("test", 1, 1, 2), const), (GIVE,), bare(GIVE))
        self.wrong((("test", 1, 1, 2), const), bare(GIVE), (GIVE,))
        self.wrong((("test", 1, 1, 2), const), (GIVE,), (("jump", 1),))
        self.wrong((("test", 1, 1, 2), const), (("jump", 2),), (GIVE,))
        self.right((("test", 1, 1, 2), const), (("jump", 3),), (("jump", 3),), (GIVE,))

    def test_goals_of_calls(self):
        call = ("call", None, ("own", 2), (), 1)
        self.right((call,), (GIVE,))
        self.wrong((call,), bare(GIVE))
        self.wrong((call,), (GIVE,), (("jump", 1),))
        self.wrong((call,), (GIVE,), (call,))
        self.right((call,), (("call", None, ("own", 2), (), 2),), (GIVE,))

    def test_a_goal_that_an_unmet_block_has_too(self):
        call = ("call", None, ("own", 2), (), 1)
        self.wrong((call,), (GIVE,), bare(("jump", 1)))

    def test_rows_of_made_programs(self):
        for seed in range(60):
            for unit in make_program(dice_of(seed), 100):
                rows = lower(unit)
                self.assertIs(is_rows(rows), True)
                for f in range(len(rows[5])):
                    self.assertIsNone(unmarked(rows, f))
                    self.assertIsNone(lacking(rows, f))
