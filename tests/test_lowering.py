"""[38]: rows that units are lowered to."""

import unittest

from labelclocks.errors import BadUnit
from labelclocks.kinds import words_of
from labelclocks.lowering import lowered
from labelclocks.meaning import Run
from labelclocks.nodes import nodes_of
from labelclocks.readtexts import program_of, unit_of
from labelclocks.rownames import names_held
from labelclocks.rowruns import RowRun
from labelclocks.rows import is_rows
from labelclocks.units import labels_of, stations_of
from tests.checks import ODD_VALUES
from tests.makers import dice_of, make_deep_unit, make_program

# all that the random programs seldom have together: both ways of calls, functions that come to themselves, loops that
# are left and begun anew, give within loops, faults of all kinds
WHOLE = """
unit u size 50
use v.sum(place row 4 record(a number, b row 2 truth), worth number) number
use v.back(worth truth, place number, place number) truth
store s row 4 record(a number, b row 2 truth)
store t number
function main()
function fac(worth n number) number
function swap(place x number, place y number)
body main
  local i number
  local j number
  local b truth
  local r row 3 number
  ask j
  while (i < 4)
    s[i].a = ((i * 7) + j)
    s[i].b[1] = (i < 2)
    i = (i + 1)
    if (i = 2)
      again
    if ((i = 3) and (j = 9))
      break
    show 1 s[(i - 1)].a
  t = call fac(j)
  show 2 t
  call swap(t, j)
  call swap(r[1], r[1])
  call swap(s[0].a, r[2])
  show 3 (t + (j * r[2]))
  j = call v.sum(s, 3)
  b = call v.back((not b), t, t)
  if b
    show 4 (t over j)
  else
    show 5 (t rest (j - j))
  show 0 r[j]
  ask s[(i - 2)].a
  fail 7
body fac
  local m number
  if (n < 1)
    give 1
  m = call fac((n - 1))
  give (m * n)
body swap
  local h number
  h = x
  x = y
  y = h
unit v size 50
function sum(place p row 4 record(a number, b row 2 truth), worth n number) number
function back(worth w truth, place x number, place y number) truth
body sum
  local k number
  local h number
  while yes
    if (n < k)
      give h
    h = (h + p[k].a)
    k = (k + 1)
body back
  while (x < 40)
    y = ((x + y) + 1)
    if w
      give (y < 45)
"""
# worth params that are passed on as places, next to others that are not, and places within them
SHARED = """
unit u size 50
function main()
function up(worth n number, worth b truth, place r row 3 number, worth m number) number
function add(place x number, place y truth, worth z number)
body main
  local i number
  local r row 3 number
  ask i
  i = call up(i, (i < 5), r, (i + 1))
  show 1 (i + (r[0] + r[2]))
body up
  local k number
  local c truth
  call add(n, b, 3)
  call add(r[2], c, n)
  if b
    k = call up((n rest 4), c, r, m)
  call add(k, c, m)
  r[0] = ((r[0] + k) + n)
  give (n + m)
body add
  show 2 x
  x = (x + z)
  y = (not y)
"""


def agrees(test, program, inputs, portions):
    """Asks a program's own run and that of its lowered rows alike, portion by portion."""
    rows = [lowered(unit) for unit in program]
    run, row_run = Run(program, inputs), RowRun(rows, inputs)
    held = {(unit[0], f): names_held(unit, f) for unit in program for f in range(len(unit[4]))}
    for portion in portions:
        run.go(portion)
        row_run.go(portion)
        trace = [("label", item[1][0], item[1][1:] + ((),)) if item[0] == "label" else item for item in run.trace()]
        test.assertEqual(row_run.trace(), trace)
        test.assertEqual(row_run.stations(), run.stations())
        test.assertEqual(
            (row_run.state(), row_run.left(), row_run.calls()), (run.state(), run.left(), run.calls()))
        for unit in program:
            for store, _ in unit[3]:
                test.assertEqual(row_run.cells(unit[0], store), run.cells(unit[0], store))
        frames_agree(test, program, run, row_run, held)
        if run.state() != "running":
            break
    return run


def frames_agree(test, program, run, row_run, held):
    frames = run.frames()
    units = {unit[0]: unit for unit in program}
    at_door = bool(run.trace()) and run.trace()[-1][0] == "label" and run.trace()[-1][1][2] == 0
    for at, (unit, f, words) in enumerate(frames):
        other = row_run.frames()[at]
        test.assertEqual(other[:2], (unit, f))
        if at_door and at == len(frames) - 1:
            for t, (name, way, _) in enumerate(units[unit][4][f][1]):
                if way == "worth":
                    test.assertEqual((other[2][t],), words[name])
            continue
        for name in words:
            where, i = held[unit, f][name]
            test.assertEqual((other[2][i],) if where == "temp" else tuple(other[3][i]), words[name], name)


class LoweringTest(unittest.TestCase):

    def test_form(self):
        for seed in range(80):
            for unit in make_program(dice_of(seed), tame=seed % 2 == 0):
                self.ask_form(unit)
        for seed in range(60):
            unit = make_deep_unit(dice_of(seed), nodes=120)
            try:
                rows = lowered(unit)
            except BadUnit:
                continue
            self.assertTrue(is_rows(rows))
            self.ask_form(unit)

    def ask_form(self, unit):
        rows = lowered(unit)
        self.assertTrue(is_rows(rows))
        name, size, uses, stores, functions = unit
        self.assertEqual(rows[:5], ("rows", name, size, uses, tuple((x, words_of(kind)) for x, kind in stores)))
        self.assertEqual(len(rows[5]), len(functions))
        for f, (own, params, result, told, body) in enumerate(functions):
            code = rows[5][f]
            self.assertEqual(code[:3], (own, tuple(param[1:] for param in params), result))
            self.ask_labels(unit, f, code)
            self.ask_sizes(code, [node[0] for _, node in nodes_of(body)], len(params) + len(told))
            kinds = dict(told + tuple((x, kind) for x, _, kind in params))
            held = names_held(unit, f)
            slots = {i: words_of(kinds[x]) for x, (where, i) in held.items() if where == "slot"}
            self.assertEqual(list(code[3]), [slots[i] for i in range(len(slots))])

    def ask_labels(self, unit, f, code):
        labels = {(f, k, ()) for k in range(len(labels_of(unit, f)))}
        stations = {(f, s): word for s, (word, _) in enumerate(stations_of(unit, f))}
        words = {"check": "bounds", "divisor": "zero", "show": "show", "ask": "ask"}
        for label, steps, ending in code[4]:
            self.assertTrue(label is None or label in labels)
            for step in steps:
                if step[0] in words:
                    self.assertEqual(stations[step[-1]], words[step[0]])
            if ending[0] == "fail":
                self.assertEqual(stations[ending[2]], "fail")

    def ask_sizes(self, code, words, names):
        branches = sum(words.count(word) for word in ("if", "while", "call"))
        leaps = sum(words.count(word) for word in ("break", "again", "give", "fail"))
        self.assertLessEqual(len(code[4]), 4 * branches + 2 * leaps + 2)
        self.assertLessEqual(sum(len(steps) for _, steps, _ in code[4]), 4 * len(words) + 2 * names + 2)
        numbers = [-1]
        for _, steps, ending in code[4]:
            for step in steps:
                first = 2 if step[0] == "show" else 1
                last = {"index": 4, "plus": 4, "load": 3, "save": 3, "copy": 3, "not": 3}.get(step[0], 2)
                numbers += [] if step[0] == "clear" else step[first:first + 1] + step[first + 1:last]
            numbers += [ending[1]] if ending[0] == "call" and ending[1] is not None else []
        self.assertLess(max(numbers), 4 * len(words) + names + 2)

    def test_the_smallest_function(self):
        rows = lowered(unit_of("unit u size 2\nfunction main()\nbody main"))
        self.assertEqual(rows[5], (("main", (), None, (), (((0, 0, ()), (), ("give", None)),)),))

    def test_a_program_of_all_forms(self):
        program = program_of(WHOLE)
        states = set()
        for inputs in ([], [3], [9, 4], [5, 1, 2], [48], [0, 0], [1], [2, 7]):
            for portions in ([1] * 400, [7] * 60, [400]):
                run = agrees(self, program, inputs, portions)
            states.add(run.trace()[-1])
        self.assertLessEqual({("failed", "zero"), ("failed", "bounds"), ("failed", 7)}, states)

    def test_worth_params_that_are_passed_on_as_places(self):
        program = program_of(SHARED)
        self.assertEqual(
            names_held(program[0], 1), {"b": ("slot", 1), "c": ("slot", 2 + 1), "k": ("slot", 2), "m": ("temp", 3),
                                        "n": ("slot", 0), "r": ("temp", 2)})
        for inputs in ([], [3], [4], [9], [47]):
            self.assertEqual(agrees(self, program, inputs, [1] * 100).state(), "ended")

    def test_runs_of_programs_made_by_dice(self):
        states = {"ended": 0, "failed": 0, "running": 0}
        for seed in range(160):
            dice = dice_of(seed)
            program = make_program(dice, tame=seed % 3 > 0)
            inputs = [dice.randrange(10000) for _ in range(dice.randrange(9))]
            portions = [1] * 150 if seed % 2 else [dice.randint(0, 40) for _ in range(10)]
            states[agrees(self, program, inputs, portions).state()] += 1
        self.assertGreater(min(states.values()), 10, states)

    def test_what_is_no_unit(self):
        unit = unit_of("unit u size 9\nfunction main()\nbody main")
        for value in ODD_VALUES + (unit[:4], list(unit), unit + ((),), (unit,)):
            self.assertRaises(BadUnit, lowered, value)
