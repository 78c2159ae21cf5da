"""[46] to [49]: pass words, passes by words, calls that are laid in, loops that are peeled, calls in last place."""

import unittest

from labelclocks.errors import BadPasses, BadReading, BadRoads, BadRows, BadUnit, BadWord, NotHere, TooLarge
from labelclocks.lowering import lowered
from labelclocks.passes import chosen, is_word, passed
from labelclocks.reading import is_reading
from labelclocks.readtexts import program_of, unit_of
from labelclocks.rowruns import RowRun
from labelclocks.rows import is_rows
from labelclocks.sourceroads import road_book
from tests.agree import NO_READING, ROADS
from tests.checks import ODD_VALUES
from tests.heart import does_as_source, made_by_dice
from tests.makers import dice_of, make_program
from tests.test_lowering import WHOLE
from tests.test_rowruns import GIVE, S, code, main, rows_of, show

AT = ("at", 0, 1)
LABEL = (0, 1, ())
# main's labels: 0 door, 1 and 2 arms, 3 round, 4 out, 5 round, 6 out, 7 and 8 arms, 9 back (of f), 10 back (of f);
# f's: 0 door, 1 and 2 arms, 3 back (of itself), 4 back (of g, in last place); g's: 0 door, 1 round, 2 out
UNIT_TEXT = """
unit u size 20
store s row 3 number
function main()
function f(worth n number, place p number) number
function g(place p number) number
body main
  local i number
  local j number
  local k number
  ask i
  if (i < 5)
    s[0] = i
  while (i < 8)
    while (j < 3)
      j = (j + 1)
      if (j = 2)
        again
      k = call f(j, s[1])
      show 1 k
    j = (i rest 2)
    i = (i + 1)
  call f(3, k)
  show 2 k
body f
  local m number
  if (n < 1)
    p = (p + 3)
    give n
  m = call f((n - 1), p)
  p = (p + m)
  m = call g(p)
  give m
body g
  while (p < 4)
    p = (p + 2)
    show 3 p
  give (p + 1)
"""
UNIT = unit_of(UNIT_TEXT)
BOOK = road_book(UNIT)


def behind(*words):
    return chosen(UNIT, list(words))


def labels_in(rows, f=None):
    return sorted(
        block[0] for at, told in enumerate(rows[5]) for block in told[4] if block[0] is not None and f in (None, at))


class WordsTest(unittest.TestCase):

    def test_words(self):
        for word in ("fold", "copies", "dead", "twice", "thread", "last"):
            self.assertIs(is_word((word,)), True)
            for value in ((word, LABEL), [word], word, (word, None), (word, ())):
                self.assertIs(is_word(value), False, value)
        for word in ("lay", "peel"):
            self.assertIs(is_word((word, LABEL)), True)
            self.assertIs(is_word((word, (5, 999, (AT,) * 8))), True)
            for value in ((word,), (word, (0, 1)), (word, [0, 1, ()]), (word, (6, 1, ())), (word, (0, 1, (AT,) * 9)),
                          (word, LABEL, LABEL), [word, LABEL]):
                self.assertIs(is_word(value), False, value)
        for value in ODD_VALUES + (("Fold",), ("",), (None,), ((),), ("call", LABEL), (LABEL,)):
            self.assertIs(is_word(value), False, value)

    def test_errors_of_passed_in_order(self):
        rows = lowered(UNIT)
        right = [rows, BOOK, NO_READING, ("fold",)]
        errors = (BadRows, BadRoads, BadReading, BadWord)
        for at, error in enumerate(errors):
            self.assertRaises(error, passed, *right[:at], *[None] * (4 - at))
            for value in ODD_VALUES:
                self.assertRaises(error, passed, *right[:at], value, *right[at + 1:])
        self.assertEqual(passed(rows=rows, roads=BOOK, reading=NO_READING, word=("fold",))[1], NO_READING)
        # any book of roads and any reading will do
        self.assertEqual(passed(main(), ROADS, ((LABEL,), (), ()), ("dead",)), (main(), ((LABEL,), (), ())))

    def test_errors_of_chosen(self):
        for value in ODD_VALUES:
            self.assertRaises(BadUnit, chosen, value, None)
        for value in (None, 1, "fold", {}, {("fold",): 1}, [("fold",)] * 41, [None] * 41):
            self.index_of_bad_passes(value, -1)
        for value, at in (([None], 0), ([("fold",), ("dead",), "dead"], 2), ([("lay",)], 0), ([("fold",)] * 39 + [()], 39),
                          ([("peel", (0, 9, ())), None], 1)):
            self.index_of_bad_passes(value, at)
        self.assertRaises(NotHere, chosen, UNIT, [("lay", LABEL)])
        self.assertRaises(NotHere, chosen, UNIT, [("fold",), ("peel", LABEL), ("lay", (0, 9, ()))])

    def index_of_bad_passes(self, words, index):
        with self.assertRaises(BadPasses) as caught:
            chosen(UNIT, words)
        self.assertEqual(caught.exception.index, index)

    def test_chosen_passes_by_the_words_one_after_another(self):
        self.assertEqual(behind(), (lowered(UNIT), NO_READING))
        words = [("lay", (0, 9, ())), ("fold",), ("peel", (0, 3, ())), ("thread",), ("last",)] + [("dead",)] * 35
        rows, reading = lowered(UNIT), NO_READING
        for word in words:
            rows, reading = passed(rows, BOOK, reading, word)
        self.assertEqual(len(words), 40)
        self.assertEqual(chosen(UNIT, words), (rows, reading))
        self.assertEqual(chosen(UNIT, tuple(words)), (rows, reading))

    def test_heads_stay(self):
        rows, _ = behind(("lay", (0, 9, ())), ("peel", (2, 1, ())), ("last",), ("fold",), ("thread",))
        self.assertEqual(rows[:5], lowered(UNIT)[:5])
        self.assertEqual([told[:3] for told in rows[5]], [told[:3] for told in lowered(UNIT)[5]])


class HeartTest(unittest.TestCase):

    def ask(self, *words, inputs=((), (3,), (6,), (7,), (19,))):
        rows, reading = behind(*words)
        self.assertTrue(is_rows(rows))
        self.assertTrue(is_reading(reading))
        for told in inputs:
            does_as_source(self, (UNIT,), [(rows, reading)], list(told), [1] * 60 + [400])
        return rows, reading

    def test_words_by_hand(self):
        first = (("first", 0, 3),)
        base = (("at", 0, 9),)
        for words in (
                [("lay", (0, 9, ()))], [("lay", (0, 10, ()))], [("lay", (1, 3, ()))], [("lay", (1, 4, ()))],
                [("lay", (1, 3, ())), ("lay", (1, 3, (("at", 1, 3),)))],
                [("lay", (1, 4, ())), ("lay", (0, 9, ())), ("peel", (2, 1, base + (("at", 1, 4),)))],
                [("peel", (0, 3, ()))], [("peel", (0, 5, ()))], [("peel", (2, 1, ()))],
                [("peel", (0, 3, ())), ("peel", (0, 5, first)), ("lay", (0, 9, first + (("later", 0, 5),)))],
                [("peel", (0, 5, ())), ("peel", (0, 3, ()))],
                [("lay", (0, 9, ())), ("peel", (0, 5, ())), ("peel", (0, 3, ()))],
                [("last",)], [("last",), ("thread",), ("dead",)], [("lay", (1, 4, ())), ("thread",)],
                [("lay", (0, 9, ())), ("last",)], [("peel", (2, 1, ())), ("lay", (1, 4, ())), ("lay", (0, 10, ()))]):
            self.ask(*words)
            self.ask(*words, ("fold",), ("copies",), ("twice",), ("dead",), ("thread",))
            self.ask(("fold",), ("copies",), ("dead",), ("thread",), *words)

    def test_programs_made_by_dice(self):
        kinds = {}
        for seed in range(150):
            dice = dice_of(seed)
            program = make_program(dice, nodes=dice.choice((60, 100)))
            made = [made_by_dice(dice, unit, dice.randrange(10)) for unit in program]
            for unit, (rows, reading, words) in zip(program, made):
                for word in words:
                    kinds[word[0]] = kinds.get(word[0], 0) + 1
            inputs = [dice.randrange(10000) for _ in range(dice.randrange(9))]
            pairs = [(rows, reading) for rows, reading, _ in made]
            does_as_source(self, program, pairs, inputs, [1] * 40 + [20, 200])
        self.assertGreater(min(kinds[word] for word in ("lay", "peel", "fold", "last")), 5, kinds)

    def test_the_whole_program(self):
        program = program_of(WHOLE)
        for words in (([("lay", (0, 8, ()))], [("peel", (0, 1, ()))]), ([("peel", (0, 1, ()))], [("peel", (1, 1, ()))]),
                      ([("lay", (1, 3, ())), ("lay", (0, 7, ()))], [("fold",), ("dead",)])):
            made = [chosen(unit, told) for unit, told in zip(program, words)]
            for inputs in ([5, 1, 2], [9, 4], [1]):
                does_as_source(self, program, made, inputs, [1] * 300)

    def test_slots_of_what_is_laid_in(self):
        # both codes have slots and addresses of them, and the callee begins with its own words at 0 each time
        program = program_of("""
unit u size 50
store s row 4 number
function main()
function f(place p row 3 number, worth n number) number
function g(place x number, worth n number)
body main
  local i number
  local a row 2 row 3 number
  while (i < 3)
    a[0][i] = (i + 7)
    i = call f(a[0], i)
    s[i] = call f(a[1], 2)
    call g(a[1][1], i)
  show 1 (a[0][0] + (a[1][1] + s[1]))
body f
  local q row 4 number
  local k number
  show 2 q[n]
  q[n] = (p[n] + 1)
  call g(q[n], 5)
  p[k] = q[n]
  call g(p[1], n)
  give (n + 1)
body g
  local h row 2 number
  show 3 h[1]
  h[1] = n
  x = (x + h[1])
  show 4 x
""")
        unit = program[0]
        words = [[("lay", (0, k, ()))] for k in (3, 4, 5)] + [[("lay", (1, k, ()))] for k in (1, 2)]
        words.append([word for told in words[::-1] for word in told])
        words.append([word for told in words[:5] for word in told] + [("peel", (0, 1, ())), ("fold",), ("dead",), ("thread",)])
        for told in words:
            made = [chosen(unit, told)]
            does_as_source(self, program, made, [], [1] * 120)

    def test_calls_in_last_place_of_several_units(self):
        program = program_of("""
unit u size 50
use v.odd(worth number, place number) truth
store s number
function main()
function even(worth n number, place p number) truth
function down(worth n number)
body main
  local i number
  local b truth
  ask i
  b = call even(i, s)
  if b
    b = call v.odd((i + 1), i)
  show 1 (i + s)
  call down(i)
body even
  local b truth
  p = (p + 1)
  if (n < 1)
    give yes
  b = call v.odd((n - 1), p)
  give b
body down
  show 2 n
  if (n < 3)
    give
  if (n < 9)
    call down((n - 2))
  else
    call down((n - 3))
unit v size 50
use u.even(worth number, place number) truth
function odd(worth n number, place p number) truth
body odd
  local b truth
  local c truth
  if (n < 1)
    give no
  b = call u.even((n - 1), p)
  c = b
  give c
""")
        for words in ([("last",)], [("fold",), ("copies",), ("dead",), ("thread",), ("last",)],
                      [("last",), ("thread",), ("lay", (0, 1, ()))], [("dead",), ("thread",), ("last",), ("lay", (0, 5, ()))]):
            made = []
            for unit in program:
                rows, reading = lowered(unit), NO_READING
                for word in words:
                    try:
                        rows, reading = passed(rows, road_book(unit), reading, word)
                    except NotHere:
                        self.assertIn(word[0], ("lay", "last"))
                made.append((rows, reading))
            self.assertEqual([len(reading[2]) for _, reading in made][1], 1)
            for inputs in ([], [7], [12], [40]):
                does_as_source(self, program, made, inputs, [1] * 200 + [300])

    def test_a_code_without_temps(self):
        unit = unit_of(
            "unit u size 9\nfunction main()\nfunction f()\nbody main\n  call f()\nbody f\n  local i number\n  ask i\n  show 1 (i + 2)")
        made = chosen(unit, [("lay", LABEL)])
        self.assertTrue(is_rows(made[0]))
        does_as_source(self, (unit,), [made], [4], [1] * 10)

    def test_equal_readings_make_equal_runs(self):
        first, later = (("first", 0, 5),), (("later", 0, 5),)
        one = behind(("peel", (0, 5, ())), ("lay", (0, 9, first)), ("lay", (0, 9, later)))
        other = behind(("lay", (0, 9, ())), ("peel", (0, 5, ())))
        self.assertEqual(one[1], other[1])
        for inputs in ([], [3], [6]):
            runs = [RowRun([rows], inputs) for rows, _ in (one, other)]
            for run in runs:
                run.go(500)
            self.assertEqual(runs[0].trace(), runs[1].trace())
        one = behind(("lay", (1, 4, ())), ("lay", (0, 9, ())), ("lay", (0, 10, ())))
        other = behind(
            ("lay", (0, 10, ())), ("lay", (0, 9, ())), ("lay", (1, 4, (("at", 0, 9),))), ("lay", (1, 4, (("at", 0, 10),))),
            ("lay", (1, 4, ())))
        self.assertEqual(one[1], other[1])


class LayTest(unittest.TestCase):

    def test_readings(self):
        base = (("at", 0, 9),)
        self.assertEqual(behind(("lay", (0, 9, ())))[1], (((0, 9, ()),), (), ()))
        rows, reading = behind(("lay", (1, 4, ())), ("peel", (2, 1, (("at", 1, 4),))), ("lay", (0, 9, ())))
        inner = (("at", 0, 9), ("at", 1, 4))
        self.assertEqual(reading, (
            ((0, 9, ()), (1, 4, ()), (1, 4, base)), ((2, 1, inner), (2, 1, (("at", 1, 4),))), ()))
        self.assertIn((2, 1, inner + (("first", 2, 1),)), labels_in(rows, 0))
        # a call of the code itself: what was laid in it before comes along
        rows, reading = behind(("lay", (1, 3, ())), ("lay", (1, 3, (("at", 1, 3),))))
        twice = (("at", 1, 3),) * 2
        self.assertEqual(reading[0], ((1, 3, ()), (1, 3, (("at", 1, 3),)), (1, 3, twice)))

    def test_labels_and_other_codes(self):
        rows, _ = behind(("lay", (0, 9, ())))
        base = (("at", 0, 9),)
        self.assertEqual(labels_in(rows, 0), sorted(
            [(0, k, ()) for k in range(11)] + [(1, k, base) for k in range(5)]))
        self.assertEqual(rows[5][1:], lowered(UNIT)[5][1:])
        self.assertEqual(rows[5][0][3], lowered(UNIT)[5][0][3] + lowered(UNIT)[5][1][3])
        # a code that comes to itself: its copy has calls of it as it was
        rows, _ = behind(("lay", (1, 3, ())))
        self.assertEqual(labels_in(rows, 1), sorted(
            [(1, k, ()) for k in range(5)] + [(1, k, (("at", 1, 3),)) for k in range(5)]))
        self.assertEqual(rows[5][0], lowered(UNIT)[5][0])

    def test_not_here(self):
        for label in ((0, 0, ()), (0, 3, ()), (0, 9, (("at", 0, 9),)), (0, 11, ()), (5, 7, ()), (2, 7, ())):
            self.assertRaises(NotHere, behind, ("lay", label))
        # a call of another unit
        unit = unit_of("unit u size 9\nuse v.f()\nfunction main()\nbody main\n  call v.f()")
        self.assertRaises(NotHere, chosen, unit, [("lay", LABEL)])
        # a call that was laid in already, a callee that calls in last place
        self.assertRaises(NotHere, behind, ("lay", (0, 9, ())), ("lay", (0, 9, ())))
        self.assertRaises(NotHere, behind, ("last",), ("lay", (0, 9, ())))
        self.assertRaises(NotHere, behind, ("last",), ("lay", (1, 4, ())))
        self.ask_one_of_two_callees()

    def ask_one_of_two_callees(self):
        unit = unit_of(
            "unit u size 9\nfunction main()\nfunction f()\nfunction g()\nbody main\n  call f()\n  call g()\n  show 1 1\n"
            "body f\n  call g()\nbody g\n  show 2 2")
        chosen(unit, [("last",), ("lay", (0, 2, ()))])
        self.assertRaises(NotHere, chosen, unit, [("last",), ("lay", (0, 1, ()))])

    def rows(self, blocks=(1, 1), steps=(0, 0), slots=(0, 0), temps=(0, 0), way=()):
        """Rows whose main calls f with two args; both have so many blocks and steps, and temps up to these."""
        codes = []
        for at in range(2):
            told = [("const", temps[at], 0)] + [("const", 2, 1)] * (steps[at] - 1) if steps[at] else []
            more = [(None, (), GIVE if at == 0 else ("give", 0))] * (blocks[at] - (2 if at == 0 else 1))
            call = ("call", 0, ("own", 1), (0, 0), 1)
            own = [((0, 0, ()), tuple(told), call), ((0, 1, way), (), GIVE)] if at == 0 else [((1, 0, ()), tuple(told), ("give", 0))]
            name = ("main", (), None) if at == 0 else ("f", (("worth", "number"),) * 2, "number")
            codes.append(name + ((1,) * slots[at], tuple(own + more)))
        return ("rows", "u", 10, (), (), tuple(codes))

    def lay(self, way=(), reading=NO_READING, **more):
        rows = self.rows(way=way, **more)
        self.assertTrue(is_rows(rows))
        found, behind_it = passed(rows, ROADS, reading, ("lay", (0, 1, way)))
        self.assertTrue(is_rows(found))
        return found, behind_it

    def test_too_many_blocks(self):
        self.lay(blocks=(200, 199), steps=(1, 1))
        self.assertRaises(TooLarge, self.lay, blocks=(200, 200), steps=(1, 1))
        self.assertRaises(TooLarge, self.lay, blocks=(201, 199), steps=(1, 1))

    def test_too_many_steps(self):
        # two args, and the gives of f: so many as it has blocks
        self.lay(steps=(4000, 3997), blocks=(2, 1))
        self.assertRaises(TooLarge, self.lay, steps=(4000, 3998), blocks=(2, 1))
        self.lay(steps=(4000, 3995), blocks=(2, 3))
        self.assertRaises(TooLarge, self.lay, steps=(4000, 3996), blocks=(2, 3))

    def test_the_gives_count_only_if_there_is_a_result_to_copy(self):
        rows = self.rows(steps=(4000, 3998), blocks=(2, 7))
        call = ("call", None) + rows[5][0][4][0][2][2:]
        blocks = (rows[5][0][4][0][:2] + (call,),) + rows[5][0][4][1:]
        rows = rows[:5] + ((rows[5][0][:4] + (blocks,), rows[5][1]),)
        self.assertTrue(is_rows(rows))
        self.assertTrue(is_rows(passed(rows, ROADS, NO_READING, ("lay", LABEL))[0]))

    def test_too_many_slots(self):
        found, _ = self.lay(slots=(40, 24), steps=(1, 1))
        self.assertEqual(found[5][0][3], (1,) * 64)
        self.assertRaises(TooLarge, self.lay, slots=(40, 25), steps=(1, 1))

    def test_too_many_temps(self):
        def rows(one, other, way=()):
            told = self.rows(steps=(2, 2), temps=(0, 0))
            codes = []
            for at, temp in enumerate((one, other)):
                blocks = list(told[5][at][4])
                blocks[0] = (blocks[0][0], blocks[0][1] + (("const", temp, 0),), blocks[0][2])
                codes.append(told[5][at][:4] + (tuple(blocks),))
            return told[:5] + (tuple(codes),)
        passed(rows(4999, 4999), ROADS, NO_READING, ("lay", LABEL))
        passed(rows(9996, 2), ROADS, NO_READING, ("lay", LABEL))
        for one, other in ((5000, 4999), (4999, 5000), (9997, 2), (9999, 0)):
            self.assertRaises(TooLarge, passed, rows(one, other), ROADS, NO_READING, ("lay", LABEL))
        # params count, too, if nothing else is so great, and what is read where no road leads
        for params, steps, greatest in ((0, (), 9999), (4, (), 9995), (2, (show(41),), 9957), (2, (("const", 41, 0),), 9957)):
            more = [(None, steps, GIVE)] if steps else []
            f = ("f", (("worth", "number"),) * params, None, (), (((1, 0, ()), (), GIVE),) + tuple(more))
            if steps[:1] == (show(41),):
                f = f[:4] + (f[4][:1] + ((None, (), ("jump", 2)), (None, (show(41),), ("give", None))),)
            for temp in (greatest, greatest + 1):
                if temp == 10000:
                    continue
                call = ("call", None, ("own", 1), (0,) * params, 1)
                told = (("const", 0, 0), ("const", temp, 0))
                rows = ("rows", "u", 10, (), (), (
                    ("main", (), None, (), (((0, 0, ()), told, call), ((0, 1, ()), (), GIVE))), f))
                self.assertTrue(is_rows(rows))
                if temp == greatest:
                    passed(rows, ROADS, NO_READING, ("lay", LABEL))
                else:
                    self.assertRaises(TooLarge, passed, rows, ROADS, NO_READING, ("lay", LABEL))
        # an ending reads, too
        f = ("f", (), "number", (), (((1, 0, ()), (), ("fail", 1, S)), (None, (), ("give", 41))))
        for temp in (9957, 9958):
            told = (("const", temp, 0),)
            rows = ("rows", "u", 10, (), (), (
                ("main", (), None, (), (((0, 0, ()), told, ("call", None, ("own", 1), (), 1)), ((0, 1, ()), (), GIVE))), f))
            if temp == 9957:
                passed(rows, ROADS, NO_READING, ("lay", LABEL))
            else:
                self.assertRaises(TooLarge, passed, rows, ROADS, NO_READING, ("lay", LABEL))

    def test_too_long_ways(self):
        self.lay(way=(AT,) * 7, steps=(1, 0))
        self.assertRaises(TooLarge, self.lay, way=(AT,) * 8, steps=(1, 0))
        other = ("at", 1, 9)
        for part in range(3):
            reading = [(), (), ()]
            reading[part] = ((4, 4, (other,) * 4),)
            self.lay(way=(AT,) * 3, steps=(1, 0), reading=tuple(reading))
            self.assertRaises(TooLarge, self.lay, way=(AT,) * 4, steps=(1, 0), reading=tuple(reading))
            # labels of other codes do not come along
            reading[part] = ((4, 4, (("at", 2, 9),) * 4), (1, 0, (("at", 0, 9),) * 8))[1:]
            self.lay(way=(AT,) * 4, steps=(1, 0), reading=tuple(reading))

    def test_not_here_comes_first(self):
        rows = self.rows(blocks=(200, 200), steps=(1, 1))
        self.assertRaises(NotHere, passed, rows, ROADS, NO_READING, ("lay", (0, 2, ())))

    def test_labels_that_no_passes_have_made(self):
        # a label of the copy stands already
        rows = rows_of(
            code("main", (0, ("call", None, ("own", 1), (), 1)), (1, GIVE), (2, GIVE)), code("f", (0, GIVE)))
        blocks = list(rows[5][0][4])
        blocks[2] = ((1, 0, (("at", 0, 1),)), (), GIVE)
        rows = rows[:5] + ((rows[5][0][:4] + (tuple(blocks),), rows[5][1]),)
        self.assertTrue(is_rows(rows))
        self.assertRaises(NotHere, passed, rows, ROADS, NO_READING, ("lay", LABEL))
        # also in another code
        rows = rows_of(
            code("main", (0, ("call", None, ("own", 1), (), 1)), (1, GIVE)), code("f", (0, GIVE)), code("g", (0, GIVE)))
        g = ("g", (), None, (), (((1, 0, (("at", 0, 1),)), (), GIVE),))
        rows = rows[:5] + (rows[5][:2] + (g,),)
        self.assertTrue(is_rows(rows))
        self.assertRaises(NotHere, passed, rows, ROADS, NO_READING, ("lay", LABEL))


class PeelTest(unittest.TestCase):

    def test_labels(self):
        rows, reading = behind(("peel", (0, 5, ())))
        first, later = (("first", 0, 5),), (("later", 0, 5),)
        inside = [(0, k, way) for k in (5, 6, 7, 8, 9) for way in (first, later) if k != 6]
        labels = labels_in(rows, 0)
        self.assertEqual(reading, ((), ((0, 5, ()),), ()))
        # labels 7, 8 are the arms of the if within, 9 is the way back
        self.assertEqual(
            [label for label in labels if label[2]], sorted(set(inside) | {(0, 6, first), (0, 6, later)}))
        self.assertEqual(rows[5][1:], lowered(UNIT)[5][1:])

    def test_labels_inside_come_with_both_marks(self):
        first, later = ("first", 0, 3), ("later", 0, 3)
        inner = ("first", 0, 5)
        words = [("peel", (0, 5, ())), ("lay", (0, 9, (inner,))), ("peel", (0, 3, ()))]
        _, reading = behind(*words)
        self.assertEqual(reading, (
            ((0, 9, (first, inner)), (0, 9, (later, inner))), ((0, 3, ()), (0, 5, (first,)), (0, 5, (later,))), ()))

    def test_labels_of_last_calls(self):
        unit = unit_of("unit u size 9\nfunction main()\nfunction f()\nbody main\n  while yes\n    call f()\n    give\nbody f")
        rows, reading = chosen(unit, [("last",), ("peel", (0, 1, ()))])
        self.assertEqual(reading, (
            (), ((0, 1, ()),), ((0, 3, (("first", 0, 1),)), (0, 3, (("later", 0, 1),)))))
        self.assertEqual(labels_in(rows, 0), [(0, 0, ()), (0, 1, (("first", 0, 1),)), (0, 2, (("first", 0, 1),))])

    def test_only_labels_that_can_be_met_are_left(self):
        # the loop is always left in its first round
        unit = unit_of("unit u size 9\nfunction main()\nbody main\n  while yes\n    if yes\n      break\n    break\n  show 1 1")
        rows, _ = chosen(unit, [("peel", (0, 1, ()))])
        first = (("first", 0, 1),)
        self.assertEqual(labels_in(rows), [
            (0, 0, ()), (0, 1, first), (0, 2, first), (0, 3, first), (0, 4, first)])

    def test_not_here(self):
        for label in ((0, 0, ()), (0, 4, ()), (0, 7, ()), (0, 11, ()), (1, 1, ()), (0, 3, (AT,)), (5, 1, ()), (4, 3, ())):
            self.assertRaises(NotHere, behind, ("peel", label))
        for way in ((("first", 0, 3),), (("later", 0, 3),), ()):
            self.assertRaises(NotHere, behind, ("peel", (0, 3, ())), ("peel", (0, 3, way)))
        outer = ("later", 0, 3)
        words = [("peel", (0, 3, ())), ("peel", (0, 5, (outer,)))]
        behind(*words, ("lay", (0, 9, (outer, ("first", 0, 5)))))
        for word in ("first", "later"):
            self.assertRaises(NotHere, behind, *words, ("peel", (0, 5, (outer, (word, 0, 5)))))
        # a loop that folding and threading have left out
        unit = unit_of("unit u size 9\nfunction main()\nbody main\n  while no\n    show 1 1")
        self.assertRaises(NotHere, chosen, unit, [("fold",), ("thread",), ("peel", LABEL)])

    def filled(self, blocks, steps, way=()):
        """Rows of a loop with so many blocks and steps, and a way at its labels."""
        unit = unit_of("unit u size 9\nfunction main()\nbody main\n  local i number\n  while (i < 3)\n    i = (i + 1)")
        rows = lowered(unit)
        name, told = rows[5][0][0], list(rows[5][0][4])
        told = [(label and label[:2] + (way,), part, ending) for label, part, ending in told]
        told += [(None, (), GIVE)] * (blocks - len(told))
        many = sum(len(part) for _, part, _ in told)
        told[0] = (told[0][0], told[0][1] + (("const", 0, 0),) * (steps - many), told[0][2])
        rows = rows[:5] + (((name, (), None, (), tuple(told)),),)
        self.assertTrue(is_rows(rows))
        return rows, road_book(unit)

    def test_too_large(self):
        word = ("peel", LABEL)
        for blocks, steps in ((133, 50), (9, 2666), (133, 2666)):
            rows, roads = self.filled(blocks, steps)
            self.assertEqual(len(rows[5][0][4]), blocks)
            self.assertTrue(is_rows(passed(rows, roads, NO_READING, word)[0]))
        for blocks, steps in ((134, 50), (9, 2667)):
            rows, roads = self.filled(blocks, steps)
            self.assertRaises(TooLarge, passed, rows, roads, NO_READING, word)
            self.assertRaises(NotHere, passed, rows, roads, NO_READING, ("peel", (0, 0, ())))

    def test_too_long_ways(self):
        way = (("at", 3, 3),) * 7
        rows, roads = self.filled(9, 50, way)
        rows_behind, _ = passed(rows, roads, NO_READING, ("peel", (0, 1, way)))
        self.assertIn((0, 1, way + (("first", 0, 1),)), labels_in(rows_behind))
        rows, roads = self.filled(9, 50, way + (AT,))
        self.assertRaises(TooLarge, passed, rows, roads, NO_READING, ("peel", (0, 1, way + (AT,))))
        rows, roads = self.filled(9, 50)
        for part in range(3):
            reading = [(), (), ()]
            # inside is what was called at the round, outside what was called at the door
            reading[part] = ((4, 9, (("at", 0, 0),) + way),)
            passed(rows, roads, tuple(reading), ("peel", LABEL))
            reading[part] = ((4, 9, (("at", 0, 1),) + way),)
            self.assertRaises(TooLarge, passed, rows, roads, tuple(reading), ("peel", LABEL))
            reading[part] = ((4, 9, (("at", 0, 1),) + way[1:]),)
            _, reading_behind = passed(rows, roads, tuple(reading), ("peel", LABEL))
            expected = [(4, 9, ((word, 0, 1), ("at", 0, 1)) + way[1:]) for word in ("first", "later")]
            self.assertTrue(set(expected) <= set(reading_behind[part]))

    def test_rows_that_no_passes_have_made(self):
        # a label inside the loop is come to without a round
        book = (((), ("arms", 1, 2), ()), ((), ("give",), (1,)), ((), ("give",), ()), ((), ("give",), (1,)))
        rows = rows_of(code("main", (0, ("jump", 2)), (1, GIVE), (3, GIVE)))
        self.assertRaises(NotHere, passed, rows, (book,), NO_READING, ("peel", LABEL))
        # a label with a mark stands already, in another code
        rows, roads = self.filled(9, 50)
        g = ("g", (), None, (), (((0, 1, (("first", 0, 1),)), (), GIVE),))
        rows = rows[:5] + (rows[5] + (g,),)
        self.assertTrue(is_rows(rows))
        self.assertRaises(NotHere, passed, rows, roads, NO_READING, ("peel", LABEL))
        # one goal of a test stands in the loop, the other one does not, and is no out
        book = (((), ("arms", 1, 2), ()), ((), ("arms", 3, 4), (1,)), ((), ("give",), ()), ((), ("arms", 1, 2), (1,)), ((), ("give",), ()))
        rows = rows_of(code(
            "main", (0, ("jump", 1), ("ask", 1, S)), (1, ("jump", 2)), (None, ("test", 1, 3, 4)), (3, ("jump", 1)), (4, GIVE)))
        self.assertRaises(NotHere, passed, rows, (book,), NO_READING, ("peel", LABEL))

    def test_readings_that_no_passes_have_made(self):
        rows = lowered(UNIT)
        turn, far = (0, 3, ()), (0, 11, ())
        self.assertEqual(len(BOOK[0]), 11)
        for part in range(3):
            reading = [(), (), ()]
            reading[part] = (turn, far)
            expected = list(reading)
            expected[1] = (turn,) if part != 1 else (turn, far)
            self.assertEqual(passed(rows, BOOK, tuple(reading), ("peel", turn))[1], tuple(expected))


class LastTest(unittest.TestCase):

    def last(self, *blocks, more=(), result="number", params=(("worth", "number"),), slots=()):
        """What calls in last place become in a code f that calls itself or g, which has f's head."""
        f = code("f", *blocks, params=params, result=result, slots=slots)
        g = code("g", (0, ("give", None if result is None else 0)), params=params, result=result)
        rows = rows_of(code("main", (0, GIVE)), f, g, *more)
        found, reading = passed(rows, ROADS, NO_READING, ("last",))
        self.assertTrue(is_rows(found))
        return found[5][1][4], reading

    def ask(self, is_last, *steps, t=2, give=2, **more):
        """Whether a call is in last place behind whose label are these steps and this give."""
        blocks = ((0, ("call", t, ("own", 2), (0,), 1), ("const", 1, 3), ("const", 4, 3)), (1, ("give", give)) + steps)
        if not is_last:
            self.assertRaises(NotHere, self.last, *blocks, **more)
            return
        found, reading = self.last(*blocks, **more)
        self.assertEqual(found, (((1, 0, ()), (("const", 1, 3), ("const", 4, 3)), ("last", ("own", 2), (0,))),))
        self.assertEqual(reading, ((), (), ((1, 1, ()),)))

    def test_results(self):
        self.ask(True)
        self.ask(True, ("copy", 1, 4))
        self.ask(True, ("copy", 5, 2), give=5)
        self.ask(True, ("copy", 5, 2), ("copy", 6, 5), ("copy", 2, 1), give=6)
        self.ask(True, ("copy", 5, 2), ("copy", 2, 1), ("copy", 2, 5))
        self.ask(False, give=1)
        self.ask(False, ("copy", 2, 1))
        self.ask(False, ("copy", 5, 2), ("copy", 5, 1), give=5)
        self.ask(False, ("copy", 5, 1), give=5)
        self.ask(False, ("const", 1, 1))
        self.ask(False, show(2))
        self.ask(False, t=None, give=1)

    def test_without_result(self):
        self.ask(True, t=None, give=None, result=None)
        self.ask(True, ("copy", 1, 4), t=None, give=None, result=None)
        self.ask(False, ("clear", 0), t=None, give=None, result=None, slots=(1,))
        # a result that is not the code's own
        h = code("h", (0, ("give", 0)), params=(("worth", "number"),), result="truth")
        blocks = ((0, ("call", 2, ("own", 3), (0,), 1)), (1, ("give", 2)))
        self.assertRaises(NotHere, self.last, *blocks, more=(h,))
        blocks = ((0, ("call", 2, ("own", 3), (0,), 1)), (1, GIVE))
        self.assertRaises(NotHere, self.last, *blocks, more=(h,), result=None)

    def test_other_endings(self):
        blocks = ((0, ("call", 2, ("own", 2), (0,), 1)), (1, ("jump", 2)), (None, ("give", 2)))
        self.assertRaises(NotHere, self.last, *blocks)
        blocks = ((0, ("call", 2, ("own", 2), (0,), 1)), (1, ("fail", 2, S)))
        self.assertRaises(NotHere, self.last, *blocks)

    def test_own_addresses(self):
        place = (("place", "number"),)
        heads = {"params": place, "result": None, "slots": (3,)}
        for steps, arg, is_last in (
                ((), 0, True), ((("base", 1, ("slot", 0)),), 1, False), ((("base", 1, ("slot", 0)),), 0, True),
                ((("base", 1, ("slot", 0)), ("copy", 2, 1), ("offset", 3, 2, 1)), 3, False),
                ((("base", 1, ("slot", 0)), ("const", 5, 0), ("index", 2, 1, 5, 1, 0), ("copy", 3, 2)), 3, False),
                ((("offset", 1, 0, 1), ("copy", 2, 1)), 2, True),
                # blocks and their order are left out
                ((("copy", 1, 0), ("copy", 2, 1), ("base", 1, ("slot", 0))), 2, False),
                ((("copy", 1, 0), ("copy", 2, 1), ("base", 3, ("slot", 0))), 2, True)):
            blocks = ((0, ("call", None, ("own", 2), (arg,), 1)) + steps, (1, GIVE))
            if is_last:
                self.assertEqual(self.last(*blocks, **heads)[0][0][2], ("last", ("own", 2), (arg,)))
            else:
                self.assertRaises(NotHere, self.last, *blocks, **heads)

    def test_stores_are_no_own_addresses(self):
        f = code("f", (0, GIVE), params=(("place", "number"),))
        blocks = ((0, ("call", None, ("own", 1), (1,), 1), ("base", 1, ("store", "s"))), (1, GIVE))
        rows = rows_of(code("main", *blocks), f, stores=(("s", 2),))
        self.assertEqual(passed(rows, ROADS, NO_READING, ("last",))[0][5][0][4][0][2], ("last", ("own", 1), (1,)))

    def test_all_calls_of_all_codes_at_once(self):
        f = code(
            "f", (0, ("test", 0, 1, 2)), (1, ("call", None, ("own", 1), (0,), 3)), (2, ("call", None, ("own", 0), (), 4)),
            (3, GIVE), (4, GIVE), (5, GIVE), params=(("worth", "number"),))
        rows = rows_of(code("main", (0, ("call", None, ("own", 1), (1,), 1), ("const", 1, 0)), (1, GIVE)), f)
        found, reading = passed(rows, ROADS, ((), (), ((3, 3, ()),)), ("last",))
        self.assertEqual(reading, ((), (), ((0, 1, ()), (1, 3, ()), (1, 4, ()), (3, 3, ()))))
        self.assertEqual([block[2] for block in found[5][1][4]], [
            ("test", 0, 1, 2), ("last", ("own", 1), (0,)), ("last", ("own", 0), ()), GIVE])
        self.assertEqual([block[0] for block in found[5][1][4]], [(1, k, ()) for k in (0, 1, 2, 5)])
        self.assertRaises(NotHere, passed, found, ROADS, reading, ("last",))

    def test_a_source(self):
        rows, reading = behind(("last",))
        self.assertEqual(reading, ((), (), ((1, 4, ()),)))
        self.assertNotIn((1, 4, ()), labels_in(rows))
