"""[7], [20] to [24]: runs of the source."""

import itertools
import unittest

from labelclocks.errors import BadInputs, BadMany, BadProgram, NoStore, TooLong
from labelclocks.meaning import Run
from labelclocks.readtexts import program_of
from labelclocks.units import is_program
from tests.checks import ODD_VALUES
from tests.makers import dice_of, make_program
from tests.oracle import Oracle

EXAMPLE = """unit u size 10
function main()
function up(place p number)
body main
  local x number
  ask x
  if (x < 5)
    call up(x)
  show 0 x
body up
  p = (p + 7)"""


def program(body, heads="", functions="", bodies="", size=10, more=""):
    """A program of a unit u with this body of main, given as lines; x, y are numbers, t is a truth."""
    lines = "".join(f"  {line}\n" for line in body)
    return program_of(
        f"unit u size {size}\n{heads}function main()\n{functions}body main\n  local x number\n  local y number\n"
        f"  local t truth\n{lines}{bodies}{more}")


def run_of(told, inputs=(), many=1000):
    run = Run(told, list(inputs))
    run.go(many)
    return run


def shown(body, inputs=(), **more):
    """What a program shows, and why it fails, if it does."""
    found = []
    for item in run_of(program(body, **more), inputs).trace():
        if item[0] == "shown":
            found.append(item[2])
        elif item[0] == "failed":
            found.append(item[1])
    return found


def observed(run):
    return run.trace(), run.stations(), run.state(), run.left(), run.calls(), run.frames(), run.wraps()


class ExampleTest(unittest.TestCase):

    def test_the_run(self):
        run = run_of(program_of(EXAMPLE), [14])
        self.assertEqual(run.trace(), [
            ("label", ("u", 0, 0)), ("asked", 4), ("label", ("u", 0, 1)), ("label", ("u", 1, 0)), ("label", ("u", 0, 3)),
            ("shown", 0, 1), ("end",)])
        self.assertEqual(run.stations(), [None, ("u", 0, 0), None, None, None, ("u", 0, 1), None])
        self.assertEqual(run.wraps(), 2)
        self.assertEqual(run.state(), "ended")

    def test_each_moment(self):
        run = Run(program_of(EXAMPLE), [14, 3])
        self.assertEqual(observed(run), ([], [], "running", [14, 3], [], [], 0))
        told = []
        for _ in range(8):
            run.go(1)
            told.append((run.calls(), [frame[2] for frame in run.frames()], run.wraps(), run.left(), run.state()))
        main, up = ("u", 0), ("u", 1)
        self.assertEqual(told, [
            ([main], [{"x": (0,)}], 0, [14, 3], "running"),
            # the word that an ask sets is set ahead of the next item
            ([main], [{"x": (0,)}], 1, [3], "running"),
            ([main], [{"x": (4,)}], 1, [3], "running"),
            ([main, up], [{"x": (4,)}, {}], 1, [3], "running"),
            ([main], [{"x": (1,)}], 2, [3], "running"),
            ([main], [{"x": (1,)}], 2, [3], "running"),
            ([], [], 2, [3], "ended"),
            ([], [], 2, [3], "ended"),
        ])


class MemoryTest(unittest.TestCase):

    STORES = "store s row 3 record(a number, b truth)\nstore g row 2 row 3 number\n"

    def test_areas_begin_with_zeros(self):
        self.assertEqual(shown(["show 0 s[2].a", "if s[1].b", "  show 0 1", "show 0 x"], heads=self.STORES), [0, 0])

    def test_rows_and_records(self):
        body = ["s[0].a = 1", "s[1].a = 2", "s[1].b = yes", "s[2].a = 3", "g[0][2] = 4", "g[1][0] = 5"]
        run = run_of(program(body, heads=self.STORES))
        self.assertEqual(run.cells("u", "s"), [1, 0, 2, 1, 3, 0])
        self.assertEqual(run.cells("u", "g"), [0, 0, 4, 5, 0, 0])
        self.assertEqual(shown(body + ["x = 1", "show 0 s[(x + 1)].a", "show 0 g[x][0]"], heads=self.STORES), [3, 5])

    def test_fields_lie_in_the_order_of_the_kind(self):
        heads = "store r record(z number, a row 2 number, m record(q truth, p number))\n"
        body = ["r.z = 1", "r.a[1] = 2", "r.m.q = yes", "r.m.p = 4"]
        self.assertEqual(run_of(program(body, heads=heads)).cells("u", "r"), [1, 0, 2, 1, 4])

    def test_items_beyond_their_row(self):
        self.assertEqual(shown(["show 0 s[2].a", "show 0 s[3].a"], heads=self.STORES), [0, "bounds"])
        run = run_of(program(["x = 3", "show 1 g[1][x]"], heads=self.STORES))
        self.assertEqual(run.trace()[-1], ("failed", "bounds"))
        # the outer item is the first one in reading order
        self.assertEqual(run.stations()[-1], ("u", 0, 1))
        run = run_of(program(["x = 2", "show 1 g[x][x]"], heads=self.STORES))
        self.assertEqual(run.stations()[-1], ("u", 0, 2))
        self.assertEqual(run.state(), "failed")
        self.assertEqual(run.calls(), [("u", 0)])
        self.assertEqual(run.frames(), [("u", 0, {"t": (0,), "x": (2,), "y": (0,)})])

    def test_an_address_is_worked_out_place_first_then_index_then_bounds(self):
        run = run_of(program(["g[2][(1 over 0)] = 1"], heads=self.STORES))
        self.assertEqual(run.trace()[-1], ("failed", "bounds"))
        self.assertEqual(run.stations()[-1], ("u", 0, 1))
        run = run_of(program(["g[1][(3 + (1 over 0))] = 1"], heads=self.STORES))
        self.assertEqual(run.trace()[-1], ("failed", "zero"))
        run = run_of(program(["g[1][3] = (1 over 0)"], heads=self.STORES))
        self.assertEqual(run.trace()[-1], ("failed", "bounds"))

    def test_each_call_has_areas_of_its_own(self):
        functions = "function f(worth n number) number\n"
        bodies = "body f\n  local r row 2 number\n  r[0] = (r[0] + n)\n  if (0 < n)\n    r[1] = call f((n - 1))\n" \
            "  give (r[0] + (r[1] * 2))\n"
        self.assertEqual(shown(["x = call f(3)", "show 0 x"], functions=functions, bodies=bodies, size=100), [11])

    def test_stores_stay(self):
        functions = "function f()\n"
        bodies = "body f\n  n = (n + 1)\n"
        body = ["call f()", "call f()", "show 0 n"]
        self.assertEqual(shown(body, heads="store n number\n", functions=functions, bodies=bodies), [2])


class ValuesTest(unittest.TestCase):

    def value(self, expression, x, y):
        return shown([f"x = {x}", f"y = {y}", f"show 0 {expression}"])[-1]

    def test_numbers(self):
        for x in (0, 1, 3, 9):
            for y in (0, 1, 4, 9):
                self.assertEqual(self.value("(x + y)", x, y), (x + y) % 10)
                self.assertEqual(self.value("(x - y)", x, y), (x - y) % 10)
                self.assertEqual(self.value("(x * y)", x, y), x * y % 10)
                self.assertEqual(self.value("(x over y)", x, y), x // y if y else "zero")
                self.assertEqual(self.value("(x rest y)", x, y), x % y if y else "zero")

    def truth(self, expression, x=0, y=0):
        return shown([f"x = {x}", f"y = {y}", f"t = {expression}", "if t", "  show 0 1", "else", "  show 0 0"])[-1]

    def test_truths(self):
        for x in (0, 1, 5):
            for y in (0, 1, 5):
                self.assertEqual(self.truth("(x < y)", x, y), int(x < y))
                self.assertEqual(self.truth("(x = y)", x, y), int(x == y))
        for one in ("yes", "no"):
            self.assertEqual(self.truth(one), int(one == "yes"))
            self.assertEqual(self.truth(f"(not {one})"), int(one == "no"))
            for other in ("yes", "no"):
                self.assertEqual(self.truth(f"({one} and {other})"), int(one == other == "yes"))
                self.assertEqual(self.truth(f"({one} or {other})"), int("yes" in (one, other)))

    def test_a_truth_is_one_or_zero(self):
        run = run_of(program(["t = (x = y)"], heads="store b row 2 truth\n", functions=""))
        self.assertEqual(run.state(), "ended")
        run = run_of(program(["b[1] = (not b[0])"], heads="store b row 2 truth\n"))
        self.assertEqual(run.cells("u", "b"), [0, 1])

    def test_both_operands_are_always_worked_out(self):
        for expression in ("(no and ((1 over 0) = 1))", "(yes or ((1 over 0) = 1))", "(((1 rest 0) = 1) and no)"):
            self.assertEqual(shown([f"t = {expression}"]), ["zero"])

    def test_the_left_operand_is_first(self):
        run = run_of(program(["x = ((1 over 0) + (2 rest 0))"]))
        self.assertEqual(run.stations()[-1], ("u", 0, 0))
        run = run_of(program(["x = ((1 over 1) over (2 rest 0))"]))
        self.assertEqual(run.stations()[-1], ("u", 0, 2))
        run = run_of(program(["x = ((1 over 1) over (2 rest 2))"]))
        self.assertEqual(run.stations()[-1], ("u", 0, 0))

    def test_wraps(self):
        for lines, many in ((["x = (9 + 0)"], 0), (["x = (9 + 1)"], 1), (["x = (0 - 1)"], 1), (["x = (3 * 4)"], 1),
                            (["x = ((5 + 5) - 1)"], 2), (["x = (9 over 2)"], 0)):
            self.assertEqual(run_of(program(lines)).wraps(), many, lines)
        self.assertEqual(run_of(program(["ask x", "ask x", "ask x", "ask x"]), [9, 10, 9999]).wraps(), 2)


class ItemsTest(unittest.TestCase):

    def labels(self, run):
        return [item[1][1:] if item[0] == "label" else item for item in run.trace()]

    def test_show_and_ask(self):
        run = run_of(program(["ask x", "show 5 x", "ask x", "show 0 x", "ask x", "show 1 x"]), [7, 23])
        self.assertEqual(run.trace()[1:], [
            ("asked", 7), ("shown", 5, 7), ("asked", 3), ("shown", 0, 3), ("asked", 0), ("shown", 1, 0), ("end",)])
        self.assertEqual(run.stations()[1:], [("u", 0, s) for s in range(6)] + [None])
        self.assertEqual(run.left(), [])

    def test_the_address_of_an_ask_is_first(self):
        run = run_of(program(["ask g[2]"], heads="store g row 2 number\n"), [1])
        self.assertEqual(run.trace()[1:], [("failed", "bounds")])
        self.assertEqual(run.stations()[1:], [("u", 0, 1)])
        self.assertEqual(run.left(), [1])

    def test_fail(self):
        run = run_of(program(["fail 7", "show 0 1"]))
        self.assertEqual(run.trace(), [("label", ("u", 0, 0)), ("failed", 7)])
        self.assertEqual(run.stations(), [None, ("u", 0, 0)])
        self.assertEqual((run.state(), run.calls()), ("failed", [("u", 0)]))

    def test_if(self):
        body = ["ask x", "if (x < 5)", "  show 0 1", "else", "  show 0 2", "show 0 3"]
        run = run_of(program(body), [1])
        self.assertEqual(self.labels(run)[2:], [(0, 1), ("shown", 0, 1), ("shown", 0, 3), ("end",)])
        run = run_of(program(body), [6])
        self.assertEqual(self.labels(run)[2:], [(0, 2), ("shown", 0, 2), ("shown", 0, 3), ("end",)])

    def test_while(self):
        run = run_of(program(["while (x < 2)", "  x = (x + 1)", "show 0 x"]))
        self.assertEqual(self.labels(run), [(0, 0), (0, 1), (0, 1), (0, 2), ("shown", 0, 2), ("end",)])

    def test_break_and_again(self):
        body = ["while (x < 9)", "  x = (x + 1)", "  if (x = 2)", "    again", "  if (x = 4)", "    break", "  show 0 x",
                "show 1 x"]
        run = run_of(program(body))
        self.assertEqual([item[1:] for item in run.trace() if item[0] == "shown"], [(0, 1), (0, 3), (1, 4)])
        # behind a break stands no label out
        self.assertNotIn((0, 2), self.labels(run))
        body = ["while (x < 2)", "  x = (x + 1)", "  while yes", "    break", "  show 0 x"]
        self.assertEqual(shown(body), [1, 2])

    def test_give(self):
        functions = "function f(worth n number) number\nfunction g() truth\nfunction h()\n"
        bodies = "body f\n  while yes\n    if (n = 1)\n      give 5\n    n = (n - 1)\nbody g\nbody h\n  give\n  fail 1\n"
        body = ["x = call f(3)", "show 0 x", "t = yes", "t = call g()", "if (not t)", "  show 0 7", "call h()",
                "call f(1)", "show 0 x"]
        self.assertEqual(shown(body, functions=functions, bodies=bodies), [5, 7, 5])

    def test_calls_by_worth_and_by_place(self):
        functions = "function f(worth a number, place b number, place r row 2 number)\n"
        bodies = "body f\n  a = (a + 1)\n  b = (b + a)\n  r[1] = b\n"
        body = ["x = 2", "y = 3", "call f(x, y, g)", "show 0 x", "show 0 y", "show 0 g[1]", "call f(1, g[0], g)",
                "show 0 g[0]", "show 0 g[1]"]
        told = shown(body, heads="store g row 2 number\n", functions=functions, bodies=bodies)
        self.assertEqual(told, [2, 6, 6, 2, 2])

    def test_two_params_for_one_place(self):
        functions = "function f(place a number, place r row 2 number)\n"
        bodies = "body f\n  a = 4\n  r[0] = (a + 1)\n  show 0 a\n"
        body = ["call f(g[0], g)", "call f(g[1], g)"]
        self.assertEqual(shown(body, heads="store g row 2 number\n", functions=functions, bodies=bodies), [5, 4])

    def test_args_are_worked_out_from_left_to_right(self):
        functions = "function f(worth a number, place b number)\n"
        run = run_of(program(
            ["call f((1 over x), g[2])"], heads="store g row 2 number\n", functions=functions, bodies="body f\n"))
        self.assertEqual(run.trace()[-1], ("failed", "zero"))
        run = run_of(program(
            ["call f(1, g[2])"], heads="store g row 2 number\n", functions=functions, bodies="body f\n"))
        self.assertEqual(run.trace(), [("label", ("u", 0, 0)), ("failed", "bounds")])

    def test_an_address_stays_what_it_was(self):
        functions = "function f(place b number)\n"
        bodies = "body f\n  n = 1\n  b = 7\n"
        body = ["call f(g[n])", "show 0 g[0]", "show 0 g[1]"]
        self.assertEqual(
            shown(body, heads="store g row 2 number\nstore n number\n", functions=functions, bodies=bodies), [7, 0])

    def test_the_target_is_worked_out_behind_the_label_back(self):
        heads = "store g row 2 number\nstore n number\n"
        functions = "function f() number\n"
        bodies = "body f\n  n = {}\n  give 7\n"
        told = program(["g[n] = call f()", "show 0 g[1]"], heads=heads, functions=functions, bodies=bodies.format(1))
        run = run_of(told)
        self.assertEqual(self.labels(run), [(0, 0), (1, 0), (0, 1), ("shown", 0, 7), ("end",)])
        told = program(["g[n] = call f()", "show 0 g[1]"], heads=heads, functions=functions, bodies=bodies.format(2))
        run = run_of(told)
        self.assertEqual(self.labels(run), [(0, 0), (1, 0), (0, 1), ("failed", "bounds")])
        self.assertEqual(run.stations()[-1], ("u", 0, 0))
        self.assertEqual(run.calls(), [("u", 0)])

    def test_functions_that_come_to_themselves(self):
        functions = "function f(worth n number) number\n"
        bodies = "body f\n  local k number\n  if (n < 2)\n    give 1\n  k = call f((n - 1))\n  give (n * k)\n"
        self.assertEqual(shown(["x = call f(5)", "show 0 x"], functions=functions, bodies=bodies, size=1000), [120])
        run = run_of(program(["x = call f(5)"], functions=functions, bodies=bodies), (), 6)
        self.assertEqual(run.calls(), [("u", 0), ("u", 1), ("u", 1), ("u", 1)])
        self.assertEqual([frame[2].get("n") for frame in run.frames()], [None, (5,), (4,), (3,)])

    def test_main_can_be_called_too(self):
        run = run_of(program(["n = (n + 1)", "if (n < 3)", "  call main()", "show 0 n"], heads="store n number\n"))
        self.assertEqual([item for item in run.trace() if item[0] in ("shown", "end")], [("shown", 0, 3)] * 3 + [("end",)])
        self.assertEqual(run.trace().count(("label", ("u", 0, 3))), 2)

    def test_calls_to_other_units(self):
        more = "unit v size 10\nuse u.g(place number)\nstore n number\nfunction f(place p number) truth\nbody f\n" \
            "  n = (n + 1)\n  call u.g(p)\n  give (p = n)\n"
        functions = "function g(place q number)\n"
        bodies = "body g\n  q = (q + 1)\n  n = 9\n"
        told = program(
            ["t = call v.f(x)", "t = call v.f(x)"], heads="use v.f(place number) truth\nstore n number\n",
            functions=functions, bodies=bodies, more=more)
        run = run_of(told, (), 4)
        self.assertEqual(run.trace(), [
            ("label", ("u", 0, 0)), ("label", ("v", 0, 0)), ("label", ("u", 1, 0)), ("label", ("v", 0, 1))])
        self.assertEqual(run.calls(), [("u", 0), ("v", 0)])
        run.go(100)
        self.assertEqual((run.cells("u", "n"), run.cells("v", "n"), run.state()), ([9], [2], "ended"))

    def test_the_last_main_is_the_one_of_the_first_unit(self):
        text = "unit u size 10\nfunction f()\nfunction main()\nbody f\nbody main\n  show 0 1\n" \
            "unit v size 10\nfunction main()\nbody main\n  show 0 2"
        run = run_of(program_of(text))
        self.assertEqual(run.trace(), [("label", ("u", 1, 0)), ("shown", 0, 1), ("end",)])


class GoTest(unittest.TestCase):

    def test_portions(self):
        for seed in range(40):
            dice = dice_of(seed)
            told = make_program(dice, 100)
            inputs = [dice.randrange(10000) for _ in range(dice.randint(0, 20))]
            whole, parts = Run(told, inputs), Run(told, inputs)
            whole.go(120)
            many = 0
            while many < 120:
                portion = min(dice.randint(0, 9), 120 - many)
                parts.go(portion)
                many += portion
            self.assertEqual(observed(whole), observed(parts))

    def test_go_zero(self):
        run = Run(program_of(EXAMPLE), [1])
        run.go(0)
        self.assertEqual((run.trace(), run.state(), run.calls()), ([], "running", []))
        run.go(2)
        before = observed(run)
        run.go(0)
        self.assertEqual(observed(run), before)

    def test_bad_many(self):
        run = Run(program_of(EXAMPLE), [1])
        for many in (-1, 100001, True, False, None, "1", 1.0, [1], 10 ** 99):
            self.assertRaises(BadMany, run.go, many)
        self.assertEqual(run.trace(), [])
        run.go(many=100000)
        self.assertEqual(run.state(), "ended")

    def test_too_long(self):
        run = Run(program(["while yes"]), [])
        run.go(100)
        with self.assertRaises(TooLong) as caught:
            run.go(99901)
        self.assertEqual(caught.exception.most, 100000)
        self.assertEqual(len(run.trace()), 100)
        run.go(99900)
        self.assertEqual(len(run.trace()), 100000)
        self.assertRaises(TooLong, run.go, 1)
        run.go(0)
        self.assertEqual(run.state(), "running")

    def test_too_long_counts_what_was_asked_for(self):
        run = Run(program_of(EXAMPLE), [1])
        run.go(100)
        self.assertEqual(run.state(), "ended")
        self.assertRaises(TooLong, run.go, 100000)
        run.go(99993)

    def test_deep_calls(self):
        run = Run(program(["call main()"]), [])
        run.go(20000)
        self.assertEqual(len(run.calls()), 20000)

    def test_no_store(self):
        run = Run(program([], heads="store s number\n"), [])
        self.assertEqual(run.cells(unit="u", store="s"), [0])
        for unit, store in (("u", "x"), ("v", "s"), (None, "s"), ("u", None), (["u"], "s"), ("u", ["s"]), (0, 0), ({}, {})):
            with self.assertRaises(NoStore) as caught:
                run.cells(unit, store)
            self.assertEqual((caught.exception.unit, caught.exception.store), (unit, store))

    def test_what_was_told_is_the_callers_own(self):
        run = run_of(program(["ask x", "fail 1"], heads="store s row 2 number\n"), [1, 2])
        before = observed(run) + (run.cells("u", "s"),)
        for told in (run.trace(), run.stations(), run.left(), run.calls(), run.frames(), run.cells("u", "s")):
            told.append(1)
            told[0] = 7
        run.frames()[0][2].clear()
        self.assertEqual(observed(run) + (run.cells("u", "s"),), before)

    def test_inputs_are_not_changed_and_not_held(self):
        inputs = [1, 2, 3]
        run = Run(program(["ask x", "ask y", "show 0 (x + y)"]), inputs)
        run.go(2)
        self.assertEqual(inputs, [1, 2, 3])
        inputs[1] = 7
        run.go(5)
        self.assertEqual(run.trace()[-2], ("shown", 0, 3))

    def test_wrong_programs_and_inputs(self):
        right = program_of(EXAMPLE)
        for value in ODD_VALUES + (right[0], list(right)):
            self.assertRaises(BadProgram, Run, value, [])
            self.assertRaises(BadProgram, Run, value, None)
        for value in (None, 1, "12", {}, [10000], [-1], [True], [None], [1.0], [1] * 401, [[1]], {1: 2}):
            self.assertRaises(BadInputs, Run, right, value)
        for value in ([0, 9999], (1, 2), (), [1] * 400):
            self.assertEqual(Run(program=right, inputs=value).left(), list(value))

    def test_runs_are_like_nothing_else(self):
        run = Run(program_of(EXAMPLE), [])
        self.assertNotEqual(run, Run(program_of(EXAMPLE), []))
        self.assertRaises(TypeError, iter, run)


class FactsTest(unittest.TestCase):

    def made(self, seeds, **more):
        for seed in seeds:
            dice = dice_of(seed)
            told = make_program(dice, 100, seed % 4 > 0, **more)
            yield told, [dice.randrange(10000) for _ in range(dice.randint(0, 12))]

    def test_a_second_reading_tells_the_same(self):
        for told, inputs in self.made(range(150)):
            oracle = Oracle(told, inputs)
            run = Run(told, inputs)
            for item, station in itertools.islice(oracle.items(), 100):
                run.go(1)
                self.assertEqual((run.trace()[-1], run.stations()[-1]), (item, station))
                self.assertEqual((run.calls(), run.frames()), (oracle.calls(), oracle.frames()))
                self.assertEqual((run.left(), run.wraps()), (oracle.inputs, oracle.wraps))
            for unit in told:
                for store, _ in unit[3]:
                    self.assertEqual(run.cells(unit[0], store), oracle.stores[unit[0]][store])

    def test_zeros_behind_the_inputs(self):
        for told, inputs in self.made(range(40)):
            one, other = run_of(told, inputs, 150), run_of(told, inputs + [0] * 5, 150)
            self.assertEqual(observed(one)[:3] + observed(one)[4:], observed(other)[:3] + observed(other)[4:])

    def test_a_greater_size(self):
        compared = 0
        for told, inputs in self.made(range(200), size=1000):
            inputs = [n % 10 for n in inputs]
            one = run_of(told, inputs, 100)
            if one.wraps():
                continue
            compared += 1
            larger = tuple((unit[0], 10000) + unit[2:] for unit in told)
            self.assertTrue(is_program(larger))
            other = run_of(larger, inputs, 100)
            self.assertEqual(observed(one), observed(other))
            for unit in told:
                for store, _ in unit[3]:
                    self.assertEqual(one.cells(unit[0], store), other.cells(unit[0], store))
        self.assertGreater(compared, 50)

    def test_places_do_what_the_body_would_do_in_place(self):
        functions = "function f(place a number, place b truth)\n"
        bodies = "body f\n  a = (a + 3)\n  b = (a < 5)\n  if b\n    a = (a * 2)\n"
        heads = "store n number\n"
        for n in range(10):
            body = [f"x = {n}", "call f(x, t)", "n = x"]
            called = run_of(program(body, heads=heads, functions=functions, bodies=bodies))
            body = [f"x = {n}", "x = (x + 3)", "t = (x < 5)", "if t", "  x = (x * 2)", "n = x"]
            self.assertEqual(called.cells("u", "n"), run_of(program(body, heads=heads)).cells("u", "n"))

    def test_a_function_may_stand_in_a_unit_of_its_own(self):
        body = "  if (n < 2)\n    give 1\n  k = call {}f((n - 1))\n  give (n * k)\n"
        ahead = "body f\n  local k number\n"
        own = program(
            ["x = call f(4)", "show 3 x"], functions="function f(worth n number) number\n",
            bodies=ahead + body.format(""))
        more = "unit v size 10\nfunction f(worth n number) number\n" + ahead + body.format("")
        apart = program(["x = call v.f(4)", "show 3 x"], heads="use v.f(worth number) number\n", more=more)
        one, other = run_of(own), run_of(apart)
        self.assertEqual([item[0] for item in one.trace()], [item[0] for item in other.trace()])
        self.assertEqual(
            [item for item in one.trace() if item[0] != "label"], [item for item in other.trace() if item[0] != "label"])
