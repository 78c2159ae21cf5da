"""[36], [37], [38]: runs of rows, the roads that labels tell, names held."""

import itertools
import unittest

from labelclocks.errors import (
    BadFunction, BadInputs, BadLabels, BadMany, BadRows, BadUnit, NoStore, TooLong,
)
from labelclocks.meaning import Run
from labelclocks.readtexts import unit_of
from labelclocks.rownames import names_held
from labelclocks.rowroads import blocks_of
from labelclocks.rowruns import RowRun
from labelclocks.rows import is_rows
from tests.checks import ODD_VALUES
from tests.lower import lower
from tests.makers import dice_of, make_program

GIVE = ("give", None)
S = (0, 7)


def code(name, *blocks, params=(), result=None, slots=()):
    """A code; a block is (label number or None, ending, step, ..); labels' functions are made by rows_of."""
    return name, tuple(params), result, tuple(slots), blocks


def rows_of(*codes, name="u", size=10, uses=(), stores=()):
    """Rows whose labels are (f, k, ()), f the number of the code."""
    made = []
    for f, (own, params, result, slots, blocks) in enumerate(codes):
        told = tuple(
            (None if k is None else (f, k, ()), tuple(steps), ending) for k, ending, *steps in blocks)
        made.append((own, params, result, slots, told))
    return ("rows", name, size, uses, stores, tuple(made))


def main(*steps, ending=GIVE, slots=(), more=(), **heads):
    """Rows with a main of one block, and other codes."""
    return rows_of(code("main", (0, ending) + steps, slots=slots), *more, **heads)


def run_of(rows, inputs=(), many=1000):
    run = RowRun(rows if isinstance(rows, list) else [rows], list(inputs))
    run.go(many)
    return run


def shown(rows, inputs=()):
    """What a run shows, and why it fails, if it does."""
    return [item[-1] for item in run_of(rows, inputs).trace() if item[0] in ("shown", "failed")]


def observed(run):
    return run.trace(), run.stations(), run.state(), run.left(), run.calls(), run.frames(), run.trodden()


def show(temp, port=0):
    return ("show", port, temp, S)


class StepsTest(unittest.TestCase):

    def value(self, *steps, x=0, y=0):
        return shown(main(("const", 1, x), ("const", 2, y), *steps, show(3)))[-1]

    def test_const_copy_not(self):
        self.assertEqual(self.value(("const", 3, 7)), 7)
        self.assertEqual(self.value(("copy", 3, 1), x=4), 4)
        for x, told in ((0, 1), (1, 0), (5, 0)):
            self.assertEqual(self.value(("not", 3, 1), x=x), told)

    def test_the_nine_words(self):
        for x, y in itertools.product((0, 1, 3, 9), (0, 1, 2, 9)):
            told = {
                "plus": (x + y) % 10, "minus": (x - y) % 10, "times": x * y % 10, "over": x // y if y else "astray",
                "rest": x % y if y else "astray", "less": int(x < y), "same": int(x == y),
                "and": int(x != 0 and y != 0), "or": int(x != 0 or y != 0)}
            for word, value in told.items():
                self.assertEqual(self.value((word, 3, 1, 2), x=x, y=y), value, word)

    def test_slots(self):
        ahead = [("base", 4, ("slot", 1)), ("clear", 1), ("const", 1, 7)]
        self.assertEqual(shown(main(*ahead, ("save", 4, 1), ("load", 3, 4), show(3), slots=(2, 3))), [7])
        steps = [("offset", 5, 4, 2), ("save", 5, 1), ("const", 2, 1), ("index", 6, 4, 2, 1, 1), ("load", 3, 6), show(3)]
        self.assertEqual(shown(main(*ahead, *steps, slots=(2, 3))), [7])
        steps = [("offset", 5, 4, 2), ("save", 5, 1), ("clear", 1), ("load", 3, 5), show(3)]
        self.assertEqual(shown(main(*ahead, *steps, slots=(2, 3))), [0])

    def test_stores(self):
        steps = [
            ("base", 1, ("store", "s")), ("const", 2, 2), ("index", 3, 1, 2, 3, 1), ("save", 3, 2), ("offset", 4, 1, 7),
            ("load", 5, 4), show(5)]
        run = run_of(main(*steps, stores=(("s", 8), ("q", 1))))
        self.assertEqual(run.trace()[1:], [("shown", 0, 2), ("end",)])
        self.assertEqual(run.cells("u", "s"), [0, 0, 0, 0, 0, 0, 0, 2])
        self.assertEqual(run.cells(unit="u", store="q"), [0])

    def test_offsets_are_not_modulo_the_size(self):
        steps = [
            ("base", 1, ("store", "s")), ("const", 2, 9), ("index", 3, 1, 2, 9, 5), ("save", 3, 2), ("offset", 3, 3, 13),
            ("save", 3, 2)]
        run = run_of(main(*steps, stores=(("s", 100),)))
        self.assertEqual([at for at, n in enumerate(run.cells("u", "s")) if n], [86, 99])

    def test_checks_and_divisors(self):
        for x in range(5):
            told = [9] if x < 3 else ["bounds"]
            rows = main(("const", 1, x), ("const", 2, 9), ("check", 1, 3, (4, 5)), show(2))
            self.assertEqual(shown(rows), told)
            if x >= 3:
                self.assertEqual(run_of(rows).stations()[-1], ("u", 4, 5))
            told = [9] if x else ["zero"]
            rows = main(("const", 1, x), ("const", 2, 9), ("divisor", 1, (2, 3)), show(2))
            self.assertEqual(shown(rows), told)
        self.assertEqual(run_of(main(("const", 1, 0), ("divisor", 1, (2, 3)))).stations()[-1], ("u", 2, 3))

    def test_show_and_ask(self):
        rows = main(("ask", 1, (1, 2)), ("show", 5, 1, (3, 4)), ("ask", 1, S), ("ask", 2, S), show(1), show(2))
        run = run_of(rows, [17, 3])
        self.assertEqual(run.trace(), [
            ("label", "u", (0, 0, ())), ("asked", 7), ("shown", 5, 7), ("asked", 3), ("asked", 0), ("shown", 0, 3),
            ("shown", 0, 0), ("end",)])
        self.assertEqual(run.stations()[:4], [None, ("u", 1, 2), ("u", 3, 4), ("u", 0, 7)])
        self.assertEqual(run.left(), [])


class AstrayTest(unittest.TestCase):

    def astray(self, rows):
        run = run_of(rows)
        self.assertEqual(run.trace()[-1], ("failed", "astray"))
        self.assertEqual((run.stations()[-1], run.state()), (None, "failed"))

    def test_offsets_beyond_the_area(self):
        for area in (("slot", 0), ("store", "s")):
            for step in (("load", 9, 2), ("save", 2, 3)):
                ahead = [("clear", 0), ("base", 1, area), ("const", 3, 1)]
                self.astray(main(*ahead, ("offset", 2, 1, 3), step, slots=(3,), stores=(("s", 3),)))
                rows = main(*ahead, ("offset", 2, 1, 2), step, slots=(3,), stores=(("s", 3),))
                self.assertEqual(run_of(rows).state(), "ended")

    def test_words_that_hold_nothing(self):
        self.astray(main(("base", 1, ("slot", 0)), ("load", 2, 1), slots=(1,)))
        rows = main(("base", 1, ("slot", 0)), ("const", 2, 1), ("save", 1, 2), ("load", 3, 1), show(3), slots=(1,))
        self.assertEqual(shown(rows), [1])
        rows = main(
            ("base", 1, ("slot", 0)), ("const", 2, 1), ("save", 1, 2), ("offset", 4, 1, 1), ("load", 3, 4), slots=(2,))
        self.astray(rows)

    def test_over_and_rest_by_zero(self):
        for word in ("over", "rest"):
            self.astray(main(("const", 1, 0), (word, 2, 1, 1)))

    def other(self, second, ending=GIVE, slots=(1,)):
        """A code that keeps an address of its slot, by way of a place, is not to be had: so one that gets it."""
        return code("f", (0, ending) + second, params=[("place", "number")], slots=slots)

    def test_slots_of_calls_that_are_over(self):
        # f is called in last place with an address of main's slot
        last = [("clear", 0), ("base", 1, ("slot", 0))]
        for step in (("load", 9, 0), ("save", 0, 3)):
            f = self.other((("const", 3, 1), step))
            self.astray(main(*last, ending=("last", ("own", 1), (1,)), slots=(1,), more=(f,)))
        # g is called in last place by f with the address that main gave: that one is there
        g = code("g", (0, GIVE, ("load", 9, 0), show(9)), params=[("place", "number")])
        f = code("f", (0, ("last", ("own", 2), (0,))), params=[("place", "number")])
        blocks = ((0, ("call", None, ("own", 1), (1,), 1)) + tuple(last), (1, GIVE))
        self.assertEqual(shown(rows_of(code("main", *blocks, slots=(1,)), f, g)), [0])

    def test_each_call_has_its_own_slots(self):
        # each call of f leaves a word in its slot; the next call holds nothing there
        f = code("f", (0, GIVE, ("base", 1, ("slot", 0)), ("const", 2, 1), ("save", 1, 2)), slots=(1,))
        g = code("g", (0, GIVE, ("base", 1, ("slot", 0)), ("load", 2, 1)), slots=(1,))
        rows = rows_of(
            code("main", (0, ("call", None, ("own", 1), (), 1)), (1, ("call", None, ("own", 2), (), 2)), (2, GIVE)), f, g)
        self.astray(rows)


class EndingsTest(unittest.TestCase):

    def test_jumps_and_tests(self):
        for x in (0, 1, 5):
            rows = rows_of(code(
                "main", (0, ("test", 1, 1, 2), ("const", 1, x)), (1, ("jump", 3), ("const", 2, 1)),
                (2, ("jump", 3), ("const", 2, 2)), (None, ("jump", 4), show(2)), (5, GIVE)))
            run = run_of(rows)
            self.assertEqual(run.trace(), [
                ("label", "u", (0, 0, ())), ("label", "u", (0, 1 if x else 2, ())), ("shown", 0, 1 if x else 2),
                ("label", "u", (0, 5, ())), ("end",)])
            self.assertEqual(run.trodden(), [("u", 0, at) for at in (0, 1 if x else 2, 3, 4)])

    def test_fail(self):
        run = run_of(main(ending=("fail", 7, (3, 4))))
        self.assertEqual(run.trace()[-1], ("failed", 7))
        self.assertEqual((run.stations()[-1], run.state(), run.calls()), (("u", 3, 4), "failed", [("u", 0)]))

    def test_calls(self):
        f = code(
            "f", (0, ("give", 3), ("load", 2, 1), ("plus", 3, 0, 2), ("save", 1, 0)),
            params=[("worth", "number"), ("place", "number")], result="number")
        rows = rows_of(code(
            "main", (0, ("call", 3, ("own", 1), (1, 2), 1), ("const", 1, 4), ("base", 2, ("store", "s"))),
            (1, ("call", None, ("own", 1), (3, 2), 2), show(3)), (2, GIVE)), f, stores=(("s", 1),))
        run = RowRun([rows], [])
        run.go(2)
        self.assertEqual(run.calls(), [("u", 0), ("u", 1)])
        self.assertEqual(run.frames(), [("u", 0, {1: 4}, []), ("u", 1, {0: 4}, [])])
        run.go(1)
        # the result is given, and the call over, ahead of the label behind
        self.assertEqual(run.trace()[-1], ("label", "u", (0, 1, ())))
        self.assertEqual(run.frames(), [("u", 0, {1: 4, 3: 4}, [])])
        run.go(100)
        self.assertEqual([item[-1] for item in run.trace() if item[0] == "shown"], [4])
        self.assertEqual(run.cells("u", "s"), [4])

    def test_a_call_that_gives_to_nothing(self):
        f = code("f", (0, ("give", 1), ("const", 1, 5)), result="number")
        rows = rows_of(
            code("main", (0, ("call", None, ("own", 1), (), 1), ("const", 1, 2)), (1, GIVE, show(1))), f)
        self.assertEqual(shown(rows), [2])

    def test_last_calls(self):
        g = code("g", (0, ("give", 1), ("plus", 1, 0, 0)), params=[("worth", "number")], result="number")
        f = code("f", (0, ("last", ("own", 2), (0,)), ("clear", 0)), params=[("worth", "number")], result="number", slots=(1,))
        rows = rows_of(
            code("main", (0, ("call", 2, ("own", 1), (1,), 1), ("const", 1, 4)), (1, GIVE, show(2))), f, g)
        run = RowRun([rows], [])
        run.go(3)
        self.assertEqual(run.trace()[-1], ("label", "u", (2, 0, ())))
        self.assertEqual(run.calls(), [("u", 0), ("u", 2)])
        run.go(100)
        self.assertEqual(run.trace()[3:], [("label", "u", (0, 1, ())), ("shown", 0, 8), ("end",)])

    def test_last_calls_of_main(self):
        f = code("f", (0, GIVE, ("const", 1, 1), show(1)))
        run = RowRun([main(ending=("last", ("own", 1), ()), more=(f,))], [])
        run.go(2)
        self.assertEqual(run.calls(), [("u", 1)])
        run.go(100)
        self.assertEqual((run.trace()[-1], run.calls(), run.state()), (("end",), [], "ended"))

    def test_last_calls_for_ever_stay_one_call(self):
        run = RowRun([main(ending=("last", ("own", 0), ()))], [])
        run.go(5000)
        self.assertEqual((run.calls(), len(run.trace())), ([("u", 0)], 5000))

    def test_calls_to_other_units(self):
        uses = (("v", "f", (("worth", "number"), ("place", "number")), "number"),)
        u = rows_of(code(
            "main", (0, ("call", 3, ("use", 0), (1, 2), 1), ("const", 1, 4), ("base", 2, ("store", "s"))),
            (1, GIVE, show(3))), uses=uses, stores=(("s", 1),))
        v = rows_of(
            code("g", (0, GIVE)),
            code("f", (0, ("last", ("own", 2), (0, 1)), ("base", 3, ("store", "s")), ("save", 3, 0)),
                 params=uses[0][2], result="number"),
            code("h", (0, ("give", 0), ("save", 1, 0)), params=uses[0][2], result="number"), name="v", stores=(("s", 2),))
        run = run_of([u, v])
        self.assertEqual(run.trace(), [
            ("label", "u", (0, 0, ())), ("label", "v", (1, 0, ())), ("label", "v", (2, 0, ())), ("label", "u", (0, 1, ())),
            ("shown", 0, 4), ("end",)])
        self.assertEqual((run.cells("u", "s"), run.cells("v", "s")), ([4], [4, 0]))


class QuestionsTest(unittest.TestCase):

    def rows(self):
        f = code(
            "f", (0, ("give", 9), ("base", 1, ("slot", 0)), ("ask", 9, (1, 0)), ("save", 1, 9)), result="number",
            slots=(2, 1))
        return rows_of(code(
            "main", (0, ("call", 1, ("own", 1), (), 1), ("ask", 3, (0, 0)), ("base", 2, ("store", "s")), ("save", 2, 3),
                     ("clear", 1)),
            (1, ("jump", 2), show(1, 2)), (None, ("jump", 3), ("copy", 0, 1)), (None, GIVE, show(0)),
            slots=(1, 3)), f, stores=(("s", 2),))

    def test_each_moment(self):
        run = RowRun([self.rows()], [14, 3, 5])
        self.assertEqual(observed(run), ([], [], "running", [14, 3, 5], [], [], []))
        one, other = ("u", 0), ("u", 1)
        told = []
        for _ in range(9):
            run.go(1)
            told.append((run.calls(), run.frames(), run.cells("u", "s"), run.left(), len(run.trodden()), run.state()))
        empty, whole = [[None], [None] * 3], [[None], [0] * 3]
        frame = [[None, None], [None]]
        self.assertEqual(told, [
            ([one], [("u", 0, {}, empty)], [0, 0], [14, 3, 5], 1, "running"),
            # a temp that asks holds its number already
            ([one], [("u", 0, {3: 4}, empty)], [0, 0], [3, 5], 1, "running"),
            ([one, other], [("u", 0, {3: 4}, whole), ("u", 1, {}, frame)], [4, 0], [3, 5], 2, "running"),
            ([one, other], [("u", 0, {3: 4}, whole), ("u", 1, {9: 3}, frame)], [4, 0], [5], 2, "running"),
            ([one], [("u", 0, {1: 3, 3: 4}, whole)], [4, 0], [5], 3, "running"),
            ([one], [("u", 0, {1: 3, 3: 4}, whole)], [4, 0], [5], 3, "running"),
            ([one], [("u", 0, {0: 3, 1: 3, 3: 4}, whole)], [4, 0], [5], 5, "running"),
            ([], [], [4, 0], [5], 5, "ended"),
            ([], [], [4, 0], [5], 5, "ended"),
        ])
        self.assertEqual(list(told[6][1][0][2]), [0, 1, 3])
        self.assertEqual(run.trodden(), [("u", 0, 0), ("u", 1, 0), ("u", 0, 1), ("u", 0, 2), ("u", 0, 3)])
        self.assertEqual(run.trace()[-3:], [("shown", 2, 3), ("shown", 0, 3), ("end",)])

    def test_portions(self):
        whole = run_of(self.rows(), [1, 2])
        for portion in (1, 2, 3, 5):
            run = RowRun([self.rows()], [1, 2])
            for _ in range(10):
                run.go(portion)
            self.assertEqual(observed(run), observed(whole))

    def test_many(self):
        run = RowRun([self.rows()], [])
        run.go(0)
        self.assertEqual((run.trace(), run.calls(), run.trodden()), ([], [], []))
        for many in (-1, 100001, True, None, "1", [1]):
            self.assertRaises(BadMany, run.go, many)
        run.go(many=8)
        self.assertEqual(len(run.trace()), 8)
        with self.assertRaises(TooLong) as caught:
            run.go(99993)
        self.assertEqual(caught.exception.most, 100000)
        run.go(99992)

    def test_too_long(self):
        rows = rows_of(code("main", (0, ("jump", 1)), (1, ("jump", 1))))
        run = RowRun([rows], [])
        run.go(100000)
        self.assertEqual(len(run.trace()), 100000)
        self.assertRaises(TooLong, run.go, 1)

    def test_what_was_told_is_the_callers_own(self):
        run = RowRun([self.rows()], [1, 2, 3])
        run.go(4)
        before = observed(run) + (run.cells("u", "s"),)
        for told in observed(run)[:2] + observed(run)[3:] + (run.cells("u", "s"),):
            told.append(1)
            told[0] = 7
        run.frames()[0][2].clear()
        run.frames()[0][3][0].append(1)
        run.frames()[0][3].clear()
        self.assertEqual(observed(run) + (run.cells("u", "s"),), before)

    def test_what_was_passed_is_not_held(self):
        inputs, rows = [1, 2, 3], [self.rows()]
        run = RowRun(rows, inputs)
        rows.clear()
        inputs.clear()
        run.go(100)
        self.assertEqual((run.state(), run.left()), ("ended", [3]))

    def test_no_store(self):
        run = RowRun([self.rows()], [])
        for unit, store in (("u", "x"), ("v", "s"), (None, "s"), ("u", None), (["u"], "s"), ("u", ["s"]), ({}, {})):
            with self.assertRaises(NoStore) as caught:
                run.cells(unit, store)
            self.assertEqual((caught.exception.unit, caught.exception.store), (unit, store))

    def test_runs_are_like_nothing_else(self):
        run = RowRun([self.rows()], [])
        self.assertNotEqual(run, RowRun([self.rows()], []))
        self.assertRaises(TypeError, iter, run)


class AllRowsTest(unittest.TestCase):

    def bad(self, all_rows):
        self.assertRaises(BadRows, RowRun, all_rows, None)
        self.assertRaises(BadRows, blocks_of, all_rows, None)

    def right(self, all_rows):
        RowRun(all_rows=all_rows, inputs=[])
        self.assertTrue(blocks_of(all_rows=all_rows, labels=[(all_rows[0][1], all_rows[0][5][0][4][0][0])]))

    def test_lists(self):
        for value in ODD_VALUES + (main(), [list(main())], [main(("not", 1, 2))], [main(), None]):
            self.bad(value)
        self.right([main()])
        self.right((main(),))
        many = [main(name=f"u{at}") for at in range(7)]
        self.right(many[:6])
        self.bad(many)
        self.bad([])
        self.bad([main(), main()])
        self.bad([main(), main(name="v", size=11)])
        self.right([main(), main(name="v")])

    def test_mains(self):
        self.bad([rows_of(code("f", (0, GIVE)))])
        self.bad([rows_of(code("main", (0, GIVE), params=[("worth", "number")]))])
        self.bad([rows_of(code("main", (0, ("give", 1), ("const", 1, 1)), result="number"))])
        self.bad([rows_of(code("f", (0, GIVE)), name="v"), main()])
        self.right([main(), rows_of(code("f", (0, GIVE)), name="v")])

    def test_uses(self):
        ways = (("worth", "number"), ("place", ("row", 2, "truth")))
        v = rows_of(code("f", (0, ("give", 0)), params=ways, result="number"), name="v")
        self.right([main(uses=(("v", "f", ways, "number"),)), v])
        for use in (
                ("v", "g", ways, "number"), ("w", "f", ways, "number"), ("v", "f", ways, "truth"), ("v", "f", ways, None),
                ("v", "f", ways[:1], "number"), ("v", "f", (ways[0], ("place", ("row", 3, "truth"))), "number"),
                ("v", "f", (("worth", "truth"), ways[1]), "number")):
            self.bad([main(uses=(use,)), v])
        self.bad([main(uses=(("v", "f", ways, "number"),))])
        back = rows_of(code("f", (0, GIVE)), name="v", uses=(("u", "main", (), None),))
        self.right([main(), back])

    def test_inputs(self):
        for value in (None, 1, "12", {}, [10000], [-1], [True], [None], [1] * 401, [[1]]):
            self.assertRaises(BadInputs, RowRun, [main()], value)
        for value in ([0, 9999], (1, 2), [1] * 400):
            self.assertEqual(RowRun([main()], value).left(), list(value))


class RoadsTest(unittest.TestCase):

    def setUp(self):
        f = code("f", (0, ("jump", 1)), (None, ("give", 0)), params=[("worth", "number")], result="number")
        const = ("const", 1, 1)
        self.rows = [rows_of(code(
            "main", (0, ("jump", 1), const), (None, ("test", 1, 2, 3)), (1, ("jump", 4)),
            (2, ("call", 1, ("own", 1), (1,), 5)), (None, ("jump", 1)), (3, ("last", ("own", 2), ()))),
            f, code("g", (0, ("fail", 1, S))))]

    def road(self, *labels):
        return [(f, block) for _, f, block in blocks_of(self.rows, [("u", (f, k, ())) for f, k in labels])]

    def bad(self, index, *labels):
        with self.assertRaises(BadLabels) as caught:
            blocks_of(self.rows, list(labels))
        self.assertEqual(caught.exception.index, index)

    def test_roads(self):
        self.assertEqual(self.road(), [])
        self.assertEqual(self.road((0, 0)), [(0, 0), (0, 1)])
        self.assertEqual(self.road((0, 0), (0, 1)), [(0, 0), (0, 1), (0, 2), (0, 4), (0, 1)])
        self.assertEqual(self.road((0, 0), (0, 2)), [(0, 0), (0, 1), (0, 3)])
        told = [(0, 0), (0, 1), (0, 3), (1, 0), (1, 1), (0, 5), (2, 0)]
        self.assertEqual(self.road((0, 0), (0, 2), (1, 0)), told[:2] + told[2:5])
        self.assertEqual(self.road((0, 0), (0, 2), (1, 0), (0, 3)), told[:6])
        self.assertEqual(self.road((0, 0), (0, 2), (1, 0), (0, 3), (2, 0)), told)
        loop = self.road((0, 0), (0, 1), (0, 1), (0, 2))
        self.assertEqual(loop, [(0, 0), (0, 1), (0, 2), (0, 4), (0, 1), (0, 2), (0, 4), (0, 1), (0, 3)])

    def test_tuples_too(self):
        self.assertEqual(blocks_of(tuple(self.rows), (("u", (0, 0, ())),)), [("u", 0, 0), ("u", 0, 1)])

    def test_labels_that_do_not_fit(self):
        door = ("u", (0, 0, ()))
        for label in (
                ("u", (0, 1, ())), ("v", (0, 0, ())), ("u", (0, 0, (("at", 0, 0),))), None, ("u", 0, 0), ("u", (0, 0)),
                ["u", (0, 0, ())], ("u", (False, 0, ())), ("u", (0, False, ())), ("u", [0, 0, ()]), (None, (0, 0, ())),
                ("u", (0, 0, ()), 1), ("u",), "u", (["u"], (0, 0, ())), ("u", (0, 0, [])), {}):
            self.bad(0, label)
            self.bad(0, label, door)
            if label != ("u", (0, 1, ())):
                self.bad(2, door, ("u", (0, 1, ())), label)
        self.bad(1, door, door)
        self.bad(3, door, ("u", (0, 2, ())), ("u", (1, 0, ())), ("u", (0, 1, ())))

    def test_labels_left_behind_the_end(self):
        labels = [("u", (0, 0, ())), ("u", (0, 2, ())), ("u", (1, 0, ())), ("u", (0, 3, ())), ("u", (2, 0, ()))]
        self.bad(5, *labels, labels[0])
        self.bad(5, *labels, None, None)
        with self.assertRaises(BadLabels) as caught:
            blocks_of([main()], [labels[0], labels[0]])
        self.assertEqual(caught.exception.index, 1)

    def test_a_fail_in_a_call_ends_the_road(self):
        f = code("f", (0, ("fail", 1, S)))
        rows = rows_of(code("main", (0, ("call", None, ("own", 1), (), 1)), (1, GIVE)), f)
        labels = [("u", (0, 0, ())), ("u", (1, 0, ())), ("u", (0, 1, ()))]
        self.assertEqual(blocks_of([rows], labels[:2]), [("u", 0, 0), ("u", 1, 0)])
        with self.assertRaises(BadLabels) as caught:
            blocks_of([rows], labels)
        self.assertEqual(caught.exception.index, 2)

    def test_no_lists(self):
        for labels in (None, 1, "u", {}, {("u", (0, 0, ())): 1}):
            with self.assertRaises(BadLabels) as caught:
                blocks_of(self.rows, labels)
            self.assertEqual(caught.exception.index, 0)

    def test_what_is_returned_is_new(self):
        blocks_of(self.rows, [("u", (0, 0, ()))]).clear()
        self.assertEqual(len(self.road((0, 0))), 2)


class LoweredTest(unittest.TestCase):
    """Rows of made programs do what these mean: each way of telling it is asked of the other one."""

    def made(self, seeds):
        for seed in seeds:
            dice = dice_of(seed)
            program = make_program(dice, 100, seed % 4 > 0)
            yield program, [lower(unit) for unit in program], [dice.randrange(10000) for _ in range(8)]

    def test_runs(self):
        for program, rows, inputs in self.made(range(100)):
            run, other = Run(program, inputs), RowRun(rows, inputs)
            for _ in range(60):
                run.go(1)
                other.go(1)
                self.assertEqual(self.items(other), run.trace())
                self.assertEqual(
                    (run.stations(), run.state(), run.left(), run.calls()),
                    (other.stations(), other.state(), other.left(), other.calls()))
                self.ask_frames(program, run, other)
                for unit in program:
                    for store, _ in unit[3]:
                        self.assertEqual(run.cells(unit[0], store), other.cells(unit[0], store))

    def items(self, run):
        return [("label", (item[1],) + item[2][:2]) if item[0] == "label" else item for item in run.trace()]

    def ask_frames(self, program, run, other):
        units = {unit[0]: unit for unit in program}
        last = run.trace()[-1]
        for at, ((name, f, told), (_, _, temps, slots)) in enumerate(zip(run.frames(), other.frames())):
            begins = at + 1 == len(run.frames()) and last[0] == "label" and last[1][2] == 0
            for x, words in told.items():
                where, number = names_held(units[name], f)[x]
                if not begins:
                    self.assertEqual((temps[number],) if where == "temp" else tuple(slots[number]), words)
            if begins:
                worths = [param for param in units[name][4][f][1] if param[1] == "worth"]
                for number, (x, way, _) in enumerate(units[name][4][f][1]):
                    if way == "worth":
                        self.assertEqual((temps[number],), told[x])
                self.assertEqual(len(temps), len(worths))

    def test_trodden_is_a_beginning_of_the_road(self):
        for program, rows, inputs in self.made(range(100)):
            run = RowRun(rows, inputs)
            blocks = {(own[1], f): told[4] for own in rows for f, told in enumerate(own[5])}
            for many in (0, 1, 2, 5, 30, 60):
                run.go(many)
                labels = [item[1:] for item in run.trace() if item[0] == "label"]
                road = blocks_of(rows, labels)
                trodden = run.trodden()
                self.assertEqual(road[:len(trodden)], trodden)
                for unit, f, block in road[len(trodden):]:
                    self.assertIsNone(blocks[(unit, f)][block][0])

    def test_labels_cut_anywhere(self):
        for program, rows, inputs in self.made(range(30)):
            run = run_of(rows, inputs, 60)
            labels = [item[1:] for item in run.trace() if item[0] == "label"]
            roads = [blocks_of(rows, labels[:at]) for at in range(len(labels) + 1)]
            for one, other in zip(roads, roads[1:]):
                self.assertEqual(other[:len(one)], one)
            self.assertTrue(all(is_rows(told) for told in rows))


class NamesHeldTest(unittest.TestCase):

    UNIT = """unit u size 10
use v.f(place number, worth number)
store s number
function main()
function f(worth a number, place b number, worth c truth, place r row 2 number)
function g(place q truth)
body main
  local x number
  local z number
  local row2 row 2 number
  local rec record(a number)
  local t truth
  x = z
  call v.f(z, x)
  call f(rec.a, row2[x], t, row2)
body f
  local k number
  local j truth
  if c
    while yes
      call g(c)
  call v.f(b, a)
body g
  local k number
  call v.f(k, k)"""

    def test_it(self):
        unit = unit_of(self.UNIT)
        held = names_held(unit, 0)
        self.assertEqual(list(held), ["rec", "row2", "t", "x", "z"])
        self.assertEqual({name: where for name, (where, _) in held.items()}, {
            "rec": "slot", "row2": "slot", "t": "temp", "x": "temp", "z": "slot"})
        self.assertEqual(sorted(held[name][1] for name in ("rec", "row2", "z")), [0, 1, 2])
        held = names_held(unit, 1)
        self.assertEqual(held["b"], ("temp", 1))
        self.assertEqual(held["r"], ("temp", 3))
        self.assertEqual(held["c"], ("slot", 0))
        self.assertEqual({held[name][0] for name in ("a", "j", "k")}, {"temp"})
        self.assertEqual(names_held(unit=unit, f=2), {"k": ("slot", 0), "q": ("temp", 0)})

    def test_a_part_of_a_name_as_an_arg(self):
        # it is the name alone that counts, and only as an arg for a place
        text = "unit u size 10\nfunction f(place a number)\nfunction g(worth a number)\nbody f\n  local x number\n" \
            "  local r row 2 number\n  call f(r[x])\n  call g(x)\nbody g\n"
        held = names_held(unit_of(text), 0)
        self.assertEqual((held["a"], held["x"][0], held["r"][0]), (("temp", 0), "temp", "slot"))

    def test_no_two_in_one_place(self):
        for seed in range(60):
            for unit in make_program(dice_of(seed), 100):
                for f, (_, params, _, told, _) in enumerate(unit[4]):
                    held = names_held(unit, f)
                    self.assertEqual(list(held), sorted([x for x, _, _ in params] + [x for x, _ in told]))
                    self.assertEqual(len(set(held.values())), len(held))
                    for at, (x, way, _) in enumerate(params):
                        if way == "place":
                            self.assertEqual(held[x], ("temp", at))
                    slots = lower(unit)[5][f][3]
                    self.assertEqual(sorted(at for where, at in held.values() if where == "slot"), list(range(len(slots))))

    def test_errors(self):
        unit = unit_of(self.UNIT)
        for value in ODD_VALUES + (list(unit),):
            self.assertRaises(BadUnit, names_held, value, 0)
        self.assertRaises(BadUnit, names_held, None, None)
        for f in (3, -1, True, None, "0", [0]):
            self.assertRaises(BadFunction, names_held, unit, f)

    def test_what_is_returned_is_new(self):
        unit = unit_of(self.UNIT)
        names_held(unit, 0).clear()
        self.assertEqual(len(names_held(unit, 0)), 5)
