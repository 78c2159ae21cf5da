"""[3] to [7], asked of all functions that stand here so far."""

import copy
import unittest

from labelclocks import books, cells, clashes, codelabels, copying, folding, frames, given, images, judging, kinds, lines
from labelclocks import liveness, loose, lowering, machine, meaning, needing, objects, ownpapers, passes, reading, readtexts
from labelclocks import rownames, rowroads, rowruns, rows, sourceroads, texts, units
from labelclocks.errors import (
    BadBeats, BadBook, BadCell, BadFunction, BadImage, BadInputs, BadKind, BadLabels, BadObject, BadPaper, BadPasses, BadPath,
    BadPlacing, BadProgram, BadReading, BadReadings, BadRegisters, BadRoads, BadRows, BadSlot, BadSpot, BadTemp, BadText,
    BadTop, BadTrail, BadUnit, BadWord, ClockError,
)
from tests.checks import ODD_VALUES, nested
from tests.link import link
from tests.lower import lower
from tests.test_meaning import EXAMPLE

PROGRAM = readtexts.program_of(EXAMPLE)
UNIT = PROGRAM[0]
ROWS = lower(UNIT)
KIND = ("row", 2, ("record", (("a", "number"), ("b", "truth"))))
LABEL = (0, 1, (("at", 0, 1),))
SLOTTED = lower(readtexts.unit_of("unit u size 9\nfunction main()\nbody main\n  local r row 3 number\n  r[1] = 2"))
ROADS = sourceroads.road_book(UNIT)
READING = (((0, 1, ()),), (LABEL,), ())
READINGS = {"u": (READING, ROADS)}
WORD = ("lay", LABEL)
CELL = ("check", 1, 2, (0, 1))
TOP = (0, (), (("first", 0, 1),))
PLACINGS = frames.placed(ROWS, 4)
PAPER = ownpapers.paper_of(ROWS, 0, 4)
IMAGE = link([ROWS], [PLACINGS], 4)
OBJECT = ("object", ROWS[1], ROWS[2], 4, ROWS[3], ROWS[4], tuple(
    code[:3] + (frame, told) for code, (told, frame) in zip(ROWS[5], PLACINGS)), READING, ROADS)


def is_some_cell(value):
    return cells.is_cell(value, 10, 8, 20)


def is_some_placing(value):
    return judging.is_placing(ROWS, 0, 4, value)


JUDGES = (
    codelabels.is_code_label, codelabels.is_station, kinds.is_name, kinds.is_plain, kinds.is_kind, units.is_unit,
    units.is_program, sourceroads.is_road_book, loose.is_loose, rows.is_rows, reading.is_reading, passes.is_word,
    is_some_cell, is_some_placing, books.is_book, images.is_image, objects.is_object)
# a function, right values for its parameters, and the error of each of these
ASKED = (
    (kinds.words_of, [KIND], [BadKind]),
    (kinds.trails, [KIND], [BadKind]),
    (kinds.inner_kind, [KIND, (1,)], [BadKind, BadTrail]),
    (kinds.offset_of, [KIND, (1,)], [BadKind, BadTrail]),
    (units.labels_of, [UNIT, 0], [BadUnit, BadFunction]),
    (units.stations_of, [UNIT, 0], [BadUnit, BadFunction]),
    (lines.tokens_of, [EXAMPLE], [BadText]),
    (texts.kind_text, [KIND], [BadKind]),
    (texts.unit_text, [UNIT], [BadUnit]),
    (texts.program_text, [PROGRAM], [BadProgram]),
    (texts.spot_of, [UNIT, 0, (0,)], [BadUnit, BadFunction, BadPath]),
    (texts.label_spots, [UNIT, 0], [BadUnit, BadFunction]),
    (readtexts.kind_of, ["row 2 number"], [BadText]),
    (readtexts.unit_of, [EXAMPLE], [BadText]),
    (readtexts.program_of, [EXAMPLE], [BadText]),
    (readtexts.completed, [EXAMPLE], [BadText]),
    (readtexts.completed_unit, [EXAMPLE], [BadText]),
    (meaning.Run, [PROGRAM, [1]], [BadProgram, BadInputs]),
    (sourceroads.road_book, [UNIT], [BadUnit]),
    (sourceroads.follows, [PROGRAM, [("u", 0, 0)]], [BadProgram, BadLabels]),
    (given.unmarked, [ROWS, 0], [BadRows, BadFunction]),
    (given.lacking, [ROWS, 0], [BadRows, BadFunction]),
    (rowruns.RowRun, [[ROWS], [1]], [BadRows, BadInputs]),
    (rowroads.blocks_of, [[ROWS], [("u", (0, 0, ()))]], [BadRows, BadLabels]),
    (rownames.names_held, [UNIT, 0], [BadUnit, BadFunction]),
    (lowering.lowered, [UNIT], [BadUnit]),
    (folding.known, [ROWS, 0], [BadRows, BadFunction]),
    (copying.sources, [ROWS, 0], [BadRows, BadFunction]),
    (needing.needed, [ROWS, 0], [BadRows, BadFunction]),
    (reading.read, [READINGS, [("u", 0, 0)]], [BadReadings, BadLabels]),
    (reading.frames, [READINGS, [("u", 0, 0)]], [BadReadings, BadLabels]),
    (reading.entered, [READINGS, "u", TOP, 0, 1], [BadReadings, BadTop, BadTop, BadTop, BadTop]),
    (reading.turned, [READINGS, "u", TOP, 0], [BadReadings, BadTop, BadTop, BadTop]),
    (passes.passed, [ROWS, ROADS, READING, ("fold",)], [BadRows, BadRoads, BadReading, BadWord]),
    (passes.chosen, [UNIT, [("fold",)]], [BadUnit, BadPasses]),
    (cells.read_registers, [CELL], [BadCell]),
    (cells.written_register, [CELL], [BadCell]),
    (liveness.alive_at, [ROWS, 0, 0, 0], [BadRows, BadFunction, BadSpot, BadSpot]),
    (liveness.road_to_read, [ROWS, 0, 0, 0, 1], [BadRows, BadFunction, BadSpot, BadSpot, BadTemp]),
    (clashes.clashes, [ROWS, 0], [BadRows, BadFunction]),
    (clashes.across, [ROWS, 0], [BadRows, BadFunction]),
    (clashes.held_temps, [ROWS, 0], [BadRows, BadFunction]),
    (clashes.core, [ROWS, 0, 3], [BadRows, BadFunction, BadRegisters]),
    (frames.area, [SLOTTED, 0, 0], [BadRows, BadFunction, BadSlot]),
    (frames.places, [ROWS, 0, 3], [BadRows, BadFunction, BadRegisters]),
    (frames.placed, [ROWS, 3], [BadRows, BadRegisters]),
    (judging.judge, [ROWS, 0, 4, PLACINGS[0], PAPER], [BadRows, BadFunction, BadRegisters, BadPlacing, BadPaper]),
    (ownpapers.paper_of, [ROWS, 0, 4], [BadRows, BadFunction, BadRegisters]),
    (books.even_book, [4], [BadBeats]),
    (machine.Machine, [IMAGE, [1], books.even_book(2)], [BadImage, BadInputs, BadBook]),
    (objects.same_face, [OBJECT, OBJECT], [BadObject, BadObject]),
)
# values that are right for some parameters with these errors
LISTS_MAY_BE_EMPTY = (BadInputs, BadLabels, BadTrail, BadPasses)
WHOLES_MAY_BE_RIGHT = (BadFunction, BadSlot, BadSpot, BadTemp, BadTop, BadBeats)


def answer_of(function, passed):
    """What a function answers; of a run what it tells after some items."""
    answer = function(*passed)
    if function in (meaning.Run, rowruns.RowRun):
        answer.go(5)
        return [answer.trace(), answer.stations(), answer.left(), answer.frames()]
    if function is machine.Machine:
        answer.go(50)
        return [answer.trace(), answer.stations(), answer.left(), answer.clocks(), answer.stacks(), answer.registers()]
    return answer


class ConventionsTest(unittest.TestCase):

    def test_parameters_are_checked_from_left_to_right(self):
        for function, right, errors in ASKED:
            for at, error in enumerate(errors):
                passed = right[:at] + [None] * (len(right) - at)
                with self.assertRaises(error, msg=function.__name__):
                    function(*passed)

    def test_any_value_is_judged(self):
        odd = ODD_VALUES + (nested(1, 40), [nested((), 39)], {"x": nested("x", 38)}, meaning.Run(PROGRAM, []))
        for judge in JUDGES:
            for value in odd:
                self.assertIs(type(judge(value)), bool, judge.__name__)
        for function, right, errors in ASKED:
            for at, error in enumerate(errors):
                for value in odd:
                    passed = right[:at] + [value] + right[at + 1:]
                    if value in ([], ()) and error in LISTS_MAY_BE_EMPTY or value == {} and error is BadReadings:
                        continue
                    if isinstance(value, int) and not isinstance(value, bool) and error in WHOLES_MAY_BE_RIGHT:
                        continue
                    if isinstance(value, str) and error in (BadText, BadKind):
                        continue
                    if value == [1] or value == (1,):
                        continue
                    with self.assertRaises(error, msg=f"{function.__name__} {value}"):
                        function(*passed)

    def test_true_and_false_are_no_wholes(self):
        self.assertRaises(BadFunction, units.labels_of, UNIT, False)
        self.assertRaises(BadTrail, kinds.inner_kind, KIND, (True,))
        self.assertRaises(BadPath, texts.spot_of, UNIT, 0, (False,))
        self.assertRaises(BadInputs, meaning.Run, PROGRAM, [True])
        self.assertRaises(BadLabels, sourceroads.follows, PROGRAM, [("u", 0, False)])
        self.assertRaises(BadLabels, rowroads.blocks_of, [ROWS], [("u", (False, 0, ()))])
        self.assertFalse(kinds.is_kind(("row", True, "number")))
        self.assertFalse(codelabels.is_station((False, 0)))

    def changed(self, value):
        """All values that have a list in the place of one tuple of this one."""
        if isinstance(value, tuple):
            yield list(value)
            for at, part in enumerate(value):
                for told in self.changed(part):
                    yield value[:at] + (told,) + value[at + 1:]

    def test_a_list_where_a_tuple_is_expected(self):
        right = (
            (kinds.is_kind, KIND), (codelabels.is_code_label, LABEL), (codelabels.is_station, (0, 1)),
            (units.is_unit, UNIT), (units.is_program, PROGRAM), (sourceroads.is_road_book, ROADS), (loose.is_loose, ROWS),
            (rows.is_rows, ROWS), (reading.is_reading, READING), (passes.is_word, WORD), (is_some_cell, CELL),
            (is_some_placing, PLACINGS[0]), (images.is_image, IMAGE), (objects.is_object, OBJECT))
        for judge, value in right:
            self.assertIs(judge(value), True)
            for told in self.changed(value):
                self.assertIs(judge(told), False, told)

    def test_a_tuple_where_a_list_is_expected(self):
        for function, right, _ in ASKED:
            told = [tuple(value) if isinstance(value, list) else value for value in right]
            self.assertEqual(answer_of(function, told), answer_of(function, right))

    def test_what_was_returned_may_be_changed(self):
        for function, right, _ in ASKED:
            answer = answer_of(function, right)
            before = copy.deepcopy(answer)
            if isinstance(answer, (list, dict)):
                answer.clear()
            self.assertEqual(answer_of(function, right), before)

    def test_what_is_passed_in_is_not_changed(self):
        for function, right, _ in ASKED:
            before = copy.deepcopy(right)
            answer_of(function, right)
            self.assertEqual(right, before)

    def test_equal_arguments_give_equal_results(self):
        for function, right, _ in ASKED:
            self.assertEqual(answer_of(function, copy.deepcopy(right)), answer_of(function, right))

    def test_all_errors_are_clock_errors_and_value_errors(self):
        for function, right, _ in ASKED:
            for kind in (ClockError, ValueError):
                self.assertRaises(kind, function, *[None] * len(right))

    def test_limits(self):
        self.assertEqual(len(lines.tokens_of("a " * 10000)), 10002)
        self.assertEqual(len(lines.tokens_of("\n" * 20000)), 1)
        self.assertRaises(BadText, readtexts.program_of, "(" * 20000)
        self.assertTrue(readtexts.program_of(readtexts.completed("(" * 20000)))
        for judge in JUDGES:
            for value in ("a" * 20000, (None,) * 100000, [0] * 100000, 10 ** 99, -10 ** 99):
                self.assertIs(judge(value), False)
