"""[45]: readings, what labels are written as, frames, and the steps of a walk."""

import unittest

from labelclocks.errors import BadLabels, BadReadings, BadTop
from labelclocks.meaning import Run
from labelclocks.reading import entered, frames, is_reading, read, turned
from labelclocks.readtexts import program_of, unit_of
from labelclocks.sourceroads import follows, road_book
from tests.checks import ODD_VALUES
from tests.makers import dice_of, make_program
from tests.retell import retold

EXAMPLE = ((
    "while", ("less", ("read", ("name", "i")), ("number", 3)),
    (("ask", ("item", ("name", "r"), ("read", ("name", "i")))), ("call", None, ("own", 0), ()))),)
UNIT = ("u", 10, (), (), (("main", (), None, (("i", "number"), ("r", ("row", 3, "number"))), EXAMPLE),))
READINGS = {"u": (((), ((0, 1, ()),), ()), road_book(UNIT))}
FIRST = ("first", 0, 1)
LATER = ("later", 0, 1)
# labels of u: main 0 door, 1 round, 2 out, 3 back (of f, in the loop), 4 back (of f), 5 back (of v's h)
# f: 0 door, 1 yes, 2 no, 3 round, 4 out, 5 round (inner), 6 out (inner), 7 back (of g)
TWO = """
unit u size 10
use v.h() truth
function main()
function f(worth n number) number
function g()
body main
  local i number
  local b truth
  while (i < 3)
    i = call f(i)
  i = call f(9)
  b = call v.h()
body f
  local j number
  local k number
  if (n < 1)
    give 1
  while (j < 2)
    k = 0
    while (k < 2)
      call g()
      k = (k + 1)
    j = (j + 1)
  give (n + 1)
body g
  show 1 2
unit v size 10
function h() truth
body h
"""
PROGRAM = program_of(TWO)


def labels_of_run(program, inputs=(), many=3000):
    run = Run(program, list(inputs))
    run.go(many)
    return [item[1] for item in run.trace() if item[0] == "label"]


def readings_of(laid=(), peeled=(), last=(), program=PROGRAM):
    found = {unit[0]: (((), (), ()), road_book(unit)) for unit in program}
    name = program[0][0]
    found[name] = ((tuple(sorted(laid)), tuple(sorted(peeled)), tuple(sorted(last))), found[name][1])
    return found


class IsReadingTest(unittest.TestCase):

    def test_readings(self):
        label, other = (0, 1, ()), (0, 1, (FIRST,))
        for value in (((), (), ()), ((label,), (), ()), ((), (label, other), ((5, 999, ()),))):
            self.assertIs(is_reading(value), True)

    def test_wrong_values(self):
        label, other = (0, 1, ()), (0, 1, (FIRST,))
        wrong = (
            ((), ()), ((), (), (), ()), [(), (), ()], ([], (), ()), ((label,), (label,), [label]), ((label, label), (), ()),
            ((), (other, label), ()), ((), (), ((0, 1),)), ((), (), (None,)), (((6, 1, ()),), (), ()),
            (((0, 1, (FIRST,) * 9),), (), ()), (None, (), ()), ((), (), label))
        for value in ODD_VALUES + wrong:
            self.assertIs(is_reading(value), False, value)
        self.assertIs(is_reading(((), (), ((0, 1, (FIRST,) * 8),))), True)


class ReadTest(unittest.TestCase):

    def test_the_example(self):
        labels = [("u", 0, k) for k in (0, 1, 0, 2, 3, 1)]
        told = [
            (0, 0, ()), (0, 1, (FIRST,)), (0, 0, ()), (0, 2, (FIRST,)), (0, 3, (FIRST,)), (0, 1, (LATER,))]
        self.assertEqual(read(READINGS, labels), [("u", label) for label in told])
        self.assertEqual(
            frames(READINGS, labels), [[("u", 0)], [("u", 0)], [("u", 0)] * 2, [("u", 0)] * 2, [("u", 0)], [("u", 0)]])
        self.assertEqual(read(READINGS, []), [])
        self.assertEqual(frames(READINGS, ()), [])

    def test_without_passes(self):
        labels = labels_of_run(PROGRAM)
        self.assertEqual(read(readings_of(), labels), [(unit, (f, k, ())) for unit, f, k in labels])

    def ask(self, **parts):
        """Asks a reading of u alike; tells the code labels that it tells, doubles left out."""
        readings = readings_of(**parts)
        labels = labels_of_run(PROGRAM)
        told, opened = retold(readings, labels)
        self.assertEqual(read(readings, labels), told)
        self.assertEqual(frames(readings, labels), opened)
        return sorted({label for unit, label in [one for one in told if one] if unit == "u"}), opened

    def test_activations_that_are_laid_in(self):
        told, opened = self.ask(laid=[(0, 4, ())])
        base = (("at", 0, 4),)
        self.assertIn((1, 0, base), told)
        self.assertIn((1, 3, base), told)
        # the other calls of f run code of their own
        self.assertIn((1, 0, ()), told)
        self.assertNotIn((0, 4, base), told)
        self.assertTrue(all(len(one) <= 3 for one in opened))
        told, _ = self.ask(laid=[(0, 4, ()), (1, 7, base)])
        self.assertIn((2, 0, (("at", 0, 4), ("at", 1, 7))), told)
        self.assertIn((2, 0, ()), told)

    def test_loops_that_are_peeled(self):
        told, _ = self.ask(peeled=[(0, 1, ())])
        for k in (1, 3):
            self.assertIn((0, k, (FIRST,)), told)
            self.assertIn((0, k, (LATER,)), told)
            self.assertNotIn((0, k, ()), told)
        self.assertIn((0, 2, (LATER,)), told)
        self.assertIn((0, 4, ()), told)

    def test_loops_within_loops(self):
        one, two = ("first", 1, 3), ("later", 1, 3)
        inner, later = ("first", 1, 5), ("later", 1, 5)
        told, _ = self.ask(peeled=[(1, 3, ())])
        self.assertIn((1, 5, (one,)), told)
        self.assertIn((1, 5, (two,)), told)
        told, _ = self.ask(peeled=[(1, 5, ())])
        self.assertIn((1, 7, (inner,)), told)
        self.assertIn((1, 6, (later,)), told)
        self.assertIn((1, 3, ()), told)
        # the inner one only as long as the outer one is in its first round
        told, _ = self.ask(peeled=[(1, 3, ()), (1, 5, (one,))])
        for way in ((one, inner), (one, later), (two,)):
            self.assertIn((1, 5, way), told)
        self.assertIn((1, 6, (one, later)), told)
        self.assertIn((1, 6, (two,)), told)
        self.assertNotIn((1, 5, (two, inner)), told)

    def test_loops_in_what_is_laid_in(self):
        base = (FIRST, ("at", 0, 3))
        told, _ = self.ask(peeled=[(0, 1, ()), (1, 3, base)], laid=[(0, 3, (FIRST,))])
        self.assertIn((1, 3, ()), told)
        readings = readings_of(peeled=[(0, 1, ()), (1, 3, base)], laid=[(0, 3, (FIRST,))])
        labels = [("u", 0, 0), ("u", 0, 1), ("u", 1, 0), ("u", 1, 2), ("u", 1, 3)]
        self.assertEqual(read(readings, labels)[2:], [
            ("u", (1, 0, base)), ("u", (1, 2, base)), ("u", (1, 3, base + (("first", 1, 3),)))])

    def test_calls_in_last_place(self):
        told, opened = self.ask(last=[(0, 5, ())])
        self.assertNotIn((0, 5, ()), told)
        self.assertEqual(opened[-2:], [[("v", 0)], []])
        # here main's frame is gone as soon as v's door is met, and does not come back
        readings = readings_of(last=[(1, 7, ())])
        labels = [("u", 0, 0), ("u", 0, 1), ("u", 1, 0), ("u", 1, 2), ("u", 1, 3), ("u", 1, 5), ("u", 2, 0), ("u", 1, 7),
                  ("u", 1, 6)]
        self.assertEqual(frames(readings, labels)[5:], [
            [("u", 0), ("u", 1)], [("u", 0), ("u", 2)], [("u", 0)], [("u", 0)]])
        self.assertEqual(read(readings, labels)[7], None)

    def test_against_a_second_reading(self):
        written = 0
        for seed in range(150):
            dice = dice_of(seed)
            program = make_program(dice, nodes=60)
            labels = labels_of_run(program, [dice.randrange(100) for _ in range(5)], 300)
            readings = {}
            for unit in program:
                readings[unit[0]] = (self.random_reading(dice, unit, program, labels), road_book(unit))
            told, opened = retold(readings, labels)
            self.assertEqual(read(readings, labels), told)
            self.assertEqual(frames(readings, labels), opened)
            written += sum(one is None or one[1][2] != () for one in told)
        self.assertGreater(written, 800)

    def random_reading(self, dice, unit, program, labels):
        """A reading of labels as they are written by a reading of fewer: so ways grow by and by."""
        parts = [[], [], []]
        for _ in range(dice.randint(0, 4)):
            readings = {one[0]: (((), (), ()), road_book(one)) for one in program}
            readings[unit[0]] = (tuple(tuple(sorted(set(part))) for part in parts), road_book(unit))
            found = [one[1] for one in read(readings, labels) if one and one[0] == unit[0] and len(one[1][2]) < 8]
            if not found:
                break
            f, k, way = dice.choice(found)
            parts[dice.choice((0, 0, 1, 1, 1, 2))].append((f, k, way[:-1] if way and dice.random() < 0.4 else way))
        return tuple(tuple(sorted(set(part))) for part in parts)

    def test_the_first_label_that_does_not_fit(self):
        readings = readings_of()
        labels = labels_of_run(PROGRAM)
        read(readings, labels)
        for at in range(0, len(labels), 5):
            for label in (("u", 0, 0), ("u", 2, 0), ("v", 0, 0), ("u", 1, 4), ("w", 0, 0), None, ("u", 0), ("u", 3, 0),
                          ("u", 0, 6), ["u", 0, 0], ("u", False, 0), ("u", 0, -1), ([], 0, 0)):
                told = labels[:at] + [label] + labels[at + 1:]
                if label == labels[at]:
                    continue
                expected = self.first_misfit(labels, at, label)
                if expected is None:
                    continue
                for function in (read, frames):
                    with self.assertRaises(BadLabels) as caught:
                        function(readings, told)
                    self.assertEqual(caught.exception.index, at, label)

    def first_misfit(self, labels, at, label):
        """The index at which a changed label does not fit, None if it may fit where it is."""
        try:
            following = follows(PROGRAM, labels[:at])
        except BadLabels:
            return at
        if at == 0:
            # any door is a beginning here
            return None if isinstance(label, tuple) and label[-1:] == (0,) else at
        return None if label in following else at

    def test_beginnings_and_ends(self):
        readings = readings_of()
        for door in (("u", 0, 0), ("u", 1, 0), ("u", 2, 0), ("v", 0, 0)):
            self.assertEqual(read(readings, [door]), [(door[0], (door[1], 0, ()))])
            self.assertEqual(frames(readings, [door]), [[door[:2]]])
        # behind the end of what was begun there is nothing
        for told in ([("v", 0, 0), ("v", 0, 0)], [("u", 2, 0), ("u", 2, 0)], [("u", 2, 0), ("u", 1, 7)]):
            with self.assertRaises(BadLabels) as caught:
                read(readings, told)
            self.assertEqual(caught.exception.index, 1)
        for label in (("u", 0, 1), ("u", 3, 0), ("u", -1, 0), ("u", False, 0), ("u", 0, False), ("w", 0, 0), ("u", "0", 0)):
            with self.assertRaises(BadLabels) as caught:
                read(readings, [label])
            self.assertEqual(caught.exception.index, 0)

    def test_labels_of_other_functions_and_units(self):
        for told in (
                [("u", 0, 0), ("u", 1, 1)], [("u", 0, 0), ("u", 0, 6)], [("u", 0, 0), ("v", 0, 1)],
                [("u", 0, 0), ("u", 0, 1), ("u", 1, 1)], [("u", 0, 0), ("u", 0, 1), ("u", 2, 0)],
                [("u", 0, 0), ("u", 0, 1), ("v", 0, 0)], [("u", 0, 0), ("u", 0, 1), ("u", 1, 0), ("u", 1, 1), ("u", 0, 4)],
                [("u", 0, 0), ("u", 0, 1), ("u", 1, 0), ("u", 1, 1), ("u", 1, 3)]):
            for function in (read, frames):
                with self.assertRaises(BadLabels) as caught:
                    function(readings_of(), told)
                self.assertEqual(caught.exception.index, len(told) - 1)

    def test_a_loop_that_is_left_for_another_one(self):
        # no label stands between the two loops within the outer one
        unit = unit_of(
            "unit u size 9\nfunction main()\nbody main\n  while yes\n    while yes\n      break\n    while yes\n      break")
        outer = ("first", 0, 1)
        readings = readings_of(
            peeled=[(0, 1, ()), (0, 3, (outer,)), (0, 5, (outer,)), (0, 5, (("later", 0, 1),))], program=(unit,))
        labels = [("u", 0, k) for k in (0, 1, 3, 5, 1, 3, 5)]
        told, opened = retold(readings, labels)
        self.assertEqual(read(readings, labels), told)
        self.assertEqual([label[2] for _, label in told[1:]], [
            (outer,), (outer, ("first", 0, 3)), (outer, ("first", 0, 5)), (("later", 0, 1),), (("later", 0, 1),),
            (("later", 0, 1), ("first", 0, 5))])

    def test_doors_of_other_units(self):
        unit = unit_of("unit u size 9\nuse v.f()\nfunction main()\nfunction g()\nbody main\n  call v.f()\nbody g\n  fail 1")
        other = unit_of("unit w size 9\nfunction f()\nfunction h()\nbody f\nbody h\n  fail 2")
        readings = {one[0]: (((), (), ()), road_book(one)) for one in (unit, other)}
        for door in (("w", 0, 0), ("w", 1, 0)):
            self.assertEqual(len(read(readings, [("u", 0, 0), door])), 2)
        for label in (("u", 0, 0), ("u", 1, 0), ("v", 0, 0), ("u", 0, 1)):
            with self.assertRaises(BadLabels) as caught:
                read(readings, [("u", 0, 0), label])
            self.assertEqual(caught.exception.index, 1)
        for label in (("u", 0, 1), ("w", 1, 0)):
            with self.assertRaises(BadLabels) as caught:
                read(readings, [("u", 0, 0), ("w", 1, 0), label])
            self.assertEqual(caught.exception.index, 2)

    def test_no_list_or_one_too_long(self):
        labels = [("u", 0, 0)] + [("u", 0, 1)] * 100000
        for value in (None, 7, "labels", {}, {("u", 0, 0): 1}, labels):
            for function in (read, frames):
                with self.assertRaises(BadLabels) as caught:
                    function(READINGS, value)
                self.assertEqual(caught.exception.index, -1)
        unit = unit_of("unit u size 9\nfunction main()\nbody main\n  while yes")
        readings = {"u": (((), ((0, 1, ()),), ()), road_book(unit))}
        labels = [("u", 0, 0)] + [("u", 0, 1)] * 99999
        self.assertEqual(read(readings, labels)[-1], ("u", (0, 1, (LATER,))))

    def test_bad_readings(self):
        reading, roads = READINGS["u"]
        wrong = (
            {"u": [reading, roads]}, {"u": (reading,)}, {"u": (roads, reading)}, {"if": (reading, roads)},
            {1: (reading, roads)}, {"u": (reading, roads), "v": None}, {"u": (reading, list(roads))}, [("u", (reading, roads))],
            {None: (reading, roads)}, {"u": (reading, ())}, {"u": (None, roads)}, {"u": (((), ()), roads)})
        for value in wrong + tuple(value for value in ODD_VALUES if value != {}):
            self.assertRaises(BadReadings, read, value, None)
            self.assertRaises(BadReadings, frames, value, [])
            self.assertRaises(BadReadings, entered, value, None, None, None, None)
            self.assertRaises(BadReadings, turned, value, "u", (0, (), ()), 0)
        self.assertEqual(read({}, []), [])


class StepsTest(unittest.TestCase):

    def walk(self, readings, labels):
        """Reads labels with a stack of tops, by entered and turned."""
        stack, told = [], []
        for at, (unit, f, k) in enumerate(labels):
            if not stack:
                stack.append([unit, (f, (), ()), None])
            else:
                caller, top, last = stack[-1]
                ending = readings[caller][1][top[0]][last][1]
                if ending[0] == "call":
                    stack.append([unit, entered(readings, caller, top, ending[2], f), None])
                elif ending[0] == "give":
                    stack.pop()
            written, top = turned(readings, unit, stack[-1][1], k)
            stack[-1][1:] = [top, k]
            told.append(None if written is None else (unit, written))
        return told

    def test_steps_lead_to_what_read_tells(self):
        labels = labels_of_run(PROGRAM)
        for parts in (
                {}, {"laid": [(0, 3, ()), (0, 4, ())]}, {"peeled": [(0, 1, ()), (1, 3, ()), (1, 5, (("first", 1, 3),))]},
                {"last": [(0, 5, ()), (1, 7, ())]},
                {"laid": [(0, 3, (FIRST,)), (1, 7, (FIRST, ("at", 0, 3)))], "peeled": [(0, 1, ())]}):
            readings = readings_of(**parts)
            self.assertEqual(self.walk(readings, labels), read(readings, labels))

    def test_tops(self):
        self.assertEqual(turned(READINGS, "u", (0, (), ()), 1), ((0, 1, (FIRST,)), (0, (), (FIRST,))))
        self.assertEqual(turned(READINGS, "u", (0, (), (FIRST,)), 1), ((0, 1, (LATER,)), (0, (), (LATER,))))
        self.assertEqual(turned(READINGS, "u", (0, (), (LATER,)), 1), ((0, 1, (LATER,)), (0, (), (LATER,))))
        self.assertEqual(turned(READINGS, "u", (0, (), (FIRST,)), 3), ((0, 3, (FIRST,)), (0, (), (FIRST,))))
        self.assertEqual(turned(READINGS, "u", (0, (), ()), 2), ((0, 2, (FIRST,)), (0, (), ())))
        self.assertEqual(turned(READINGS, "u", (0, (), (FIRST,)), 2), ((0, 2, (LATER,)), (0, (), ())))
        self.assertEqual(turned(READINGS, "u", (0, (), (LATER,)), 2), ((0, 2, (LATER,)), (0, (), ())))
        self.assertEqual(entered(READINGS, "u", (0, (), (FIRST,)), 3, 5), (5, (), ()))

    def test_entered(self):
        readings = {"u": (((((0, 3, (LATER,)),), ((0, 1, ()),), ())), road_book(UNIT))}
        self.assertEqual(entered(readings, "u", (0, (), (LATER,)), 3, 0), (0, (LATER, ("at", 0, 3)), ()))
        self.assertEqual(entered(readings, "u", (0, (), (FIRST,)), 3, 0), (0, (), ()))
        base = (("at", 0, 3),)
        readings = {"u": (((((0, 3, base),), (), ())), road_book(UNIT))}
        self.assertEqual(entered(readings, "u", (0, base, ()), 3, 0), (0, base * 2, ()))

    def test_labels_written_as_none(self):
        readings = {"u": (((), ((0, 1, ()),), ((0, 3, (FIRST,)),)), road_book(UNIT))}
        self.assertEqual(turned(readings, "u", (0, (), (FIRST,)), 3), (None, (0, (), (FIRST,))))
        self.assertEqual(turned(readings, "u", (0, (), (LATER,)), 3), ((0, 3, (LATER,)), (0, (), (LATER,))))

    def test_any_tops(self):
        # tops that no run comes to are tops, too
        for top in ((0, (FIRST,) * 12, ()), (0, (), (("at", 5, 9), FIRST)), (0, (), (LATER, LATER))):
            for k in range(4):
                written, behind = turned(READINGS, "u", top, k)
                self.assertEqual(behind[:2], top[:2])
                self.assertEqual(entered(READINGS, "u", top, k, 2)[0], 2)

    def test_bad_tops(self):
        right = ["u", (0, (), ()), 1]
        wrong_tops = (
            None, (), (0, ()), [0, (), ()], (1, (), ()), (-1, (), ()), (False, (), ()), (0, [], ()), (0, (), None),
            (0, (("on", 0, 1),), ()), (0, (), (("at", 6, 1),)), (0, (), (("at", 0, 1000),)), (0, (("at", 0),), ()), ("u", (), ()))
        for at, values in ((0, (None, "v", 1, ["u"], ())), (1, wrong_tops), (2, (None, 4, -1, True, "1"))):
            for value in values:
                told = right[:at] + [value] + right[at + 1:]
                self.assertRaises(BadTop, turned, READINGS, *told)
                self.assertRaises(BadTop, entered, READINGS, *told, 0)
        for f in (6, -1, None, True, "0"):
            self.assertRaises(BadTop, entered, READINGS, *right, f)
        self.assertEqual(entered(READINGS, *right, 5), (5, (), ()))
