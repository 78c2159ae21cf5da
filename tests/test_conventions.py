"""[3] to [7], asked of all functions that stand here so far."""

import copy
import unittest

from labelclocks import bench, books, bounds, cells, clashes, clocks, codelabels, compiling, copying, desk, extremes, folding, frames
from labelclocks import given, images, imagewebs, judging, kinds, labeltexts, labelwebs, led, lines, linking, liveness, loose, lowering
from labelclocks import machine, meaning, needing, needs, objects, ownpapers, papers, passes, prices, reading, readtexts, rownames
from labelclocks import rowroads, rowruns, rows, sourceroads, texts, units, webs, words
from labelclocks.errors import (
    BadBeats, BadBook, BadBooks, BadCell, BadChain, BadDen, BadFunction, BadImage, BadInputs, BadKind, BadLabel, BadLabels,
    BadLabelText, BadNames, BadNeeded, BadObject, BadObjects, BadPaper, BadPasses, BadPassesText, BadPath, BadPlacing, BadPrices,
    BadProgram, BadReading, BadReadings, BadRegisters, BadRoads, BadRoom, BadRounds, BadRows, BadSides, BadSlot, BadSpot, BadTemp,
    BadText, BadTop, BadTrace, BadTrail, BadUnit, BadWeb, BadWeights, BadWord, BadWords, ClockError, NoMain, NoStore,
)
from tests.checks import ODD_VALUES, nested
from tests.link import link
from tests.lower import lower
from tests.test_meaning import EXAMPLE

PROGRAM = readtexts.program_of(EXAMPLE)
UNIT = PROGRAM[0]
ROWS = lower(UNIT)
KIND = ("row", 2, ("record", (("a", "number"), ("b", "truth"))))
LABEL = (0, 1, (("at", 0, 1),))
SLOTTED = lower(readtexts.unit_of("unit u size 9\nfunction main()\nbody main\n  local r row 3 number\n  r[1] = 2"))
ROADS = sourceroads.road_book(UNIT)
READING = (((0, 1, ()),), (LABEL,), ())
READINGS = {"u": (READING, ROADS)}
WORD = ("lay", LABEL)
CELL = ("check", 1, 2, (0, 1))
TOP = (0, (), (("first", 0, 1),))
PLACINGS = frames.placed(ROWS, 4)
PAPER = ownpapers.paper_of(ROWS, 0, 4)
IMAGE = link([ROWS], [PLACINGS], 4)
OBJECT = ("object", ROWS[1], ROWS[2], 4, ROWS[3], ROWS[4], tuple(
    code[:3] + (frame, told) for code, (told, frame) in zip(ROWS[5], PLACINGS)), READING, ROADS)
MADE = [compiling.compiled(UNIT, [("fold",)], 4)]
STORED = [compiling.compiled(readtexts.unit_of("unit u size 10\nstore s row 3 number\nfunction main()\nbody main\n  s[0] = 1"))]
BOOK = books.even_book(2)
RUN = meaning.Run(PROGRAM, [14])
RUN.go(5)
WEB = (2, ((3, ((0, 1, 1, 5, (0,)), (1, 2, 1, 0, ()))), (2, ((0, 1, None, 3, (1, 1)),))))
WEB_WORDS = ((1, (0,)), (0, ((0, 0), (1, 0))))
FITTING = (11, 0)
LEAST = extremes.least(WEB)
NAMES = labelwebs.label_web([MADE], "u")[1]
CHAIN = needs.needed(MADE, "u")[2]


def is_some_cell(value):
    return cells.is_cell(value, 10, 8, 20)


def is_some_placing(value):
    return judging.is_placing(ROWS, 0, 4, value)


def is_some_words(value):
    return words.is_words(WEB, value)


def is_some_priced(value):
    return papers.is_priced(WEB, 1, FITTING, value)


def is_some_bag(value):
    return papers.is_bag(WEB, value, (0, 1), 1, 1)


def is_some_least(value):
    return extremes.is_least(WEB, LEAST[1], value, LEAST[3])


def is_some_below(value):
    return extremes.is_below(WEB, (), value)


JUDGES = (
    is_some_words, is_some_priced, is_some_bag, is_some_least, is_some_below, webs.is_web,
    codelabels.is_code_label, codelabels.is_station, kinds.is_name, kinds.is_plain, kinds.is_kind, units.is_unit,
    units.is_program, sourceroads.is_road_book, loose.is_loose, rows.is_rows, reading.is_reading, passes.is_word,
    is_some_cell, is_some_placing, books.is_book, images.is_image, objects.is_object)
# a function, right values for its parameters, and the error of each of these
ASKED = (
    (kinds.words_of, [KIND], [BadKind]),
    (kinds.trails, [KIND], [BadKind]),
    (kinds.inner_kind, [KIND, (1,)], [BadKind, BadTrail]),
    (kinds.offset_of, [KIND, (1,)], [BadKind, BadTrail]),
    (units.labels_of, [UNIT, 0], [BadUnit, BadFunction]),
    (units.stations_of, [UNIT, 0], [BadUnit, BadFunction]),
    (lines.tokens_of, [EXAMPLE], [BadText]),
    (texts.kind_text, [KIND], [BadKind]),
    (texts.unit_text, [UNIT], [BadUnit]),
    (texts.program_text, [PROGRAM], [BadProgram]),
    (texts.spot_of, [UNIT, 0, (0,)], [BadUnit, BadFunction, BadPath]),
    (texts.label_spots, [UNIT, 0], [BadUnit, BadFunction]),
    (readtexts.kind_of, ["row 2 number"], [BadText]),
    (readtexts.unit_of, [EXAMPLE], [BadText]),
    (readtexts.program_of, [EXAMPLE], [BadText]),
    (readtexts.completed, [EXAMPLE], [BadText]),
    (readtexts.completed_unit, [EXAMPLE], [BadText]),
    (meaning.Run, [PROGRAM, [1]], [BadProgram, BadInputs]),
    (sourceroads.road_book, [UNIT], [BadUnit]),
    (sourceroads.follows, [PROGRAM, [("u", 0, 0)]], [BadProgram, BadLabels]),
    (given.unmarked, [ROWS, 0], [BadRows, BadFunction]),
    (given.lacking, [ROWS, 0], [BadRows, BadFunction]),
    (rowruns.RowRun, [[ROWS], [1]], [BadRows, BadInputs]),
    (rowroads.blocks_of, [[ROWS], [("u", (0, 0, ()))]], [BadRows, BadLabels]),
    (rownames.names_held, [UNIT, 0], [BadUnit, BadFunction]),
    (lowering.lowered, [UNIT], [BadUnit]),
    (folding.known, [ROWS, 0], [BadRows, BadFunction]),
    (copying.sources, [ROWS, 0], [BadRows, BadFunction]),
    (needing.needed, [ROWS, 0], [BadRows, BadFunction]),
    (reading.read, [READINGS, [("u", 0, 0)]], [BadReadings, BadLabels]),
    (reading.frames, [READINGS, [("u", 0, 0)]], [BadReadings, BadLabels]),
    (reading.entered, [READINGS, "u", TOP, 0, 1], [BadReadings, BadTop, BadTop, BadTop, BadTop]),
    (reading.turned, [READINGS, "u", TOP, 0], [BadReadings, BadTop, BadTop, BadTop]),
    (passes.passed, [ROWS, ROADS, READING, ("fold",)], [BadRows, BadRoads, BadReading, BadWord]),
    (passes.chosen, [UNIT, [("fold",)]], [BadUnit, BadPasses]),
    (cells.read_registers, [CELL], [BadCell]),
    (cells.written_register, [CELL], [BadCell]),
    (liveness.alive_at, [ROWS, 0, 0, 0], [BadRows, BadFunction, BadSpot, BadSpot]),
    (liveness.road_to_read, [ROWS, 0, 0, 0, 1], [BadRows, BadFunction, BadSpot, BadSpot, BadTemp]),
    (clashes.clashes, [ROWS, 0], [BadRows, BadFunction]),
    (clashes.across, [ROWS, 0], [BadRows, BadFunction]),
    (clashes.held_temps, [ROWS, 0], [BadRows, BadFunction]),
    (clashes.core, [ROWS, 0, 3], [BadRows, BadFunction, BadRegisters]),
    (frames.area, [SLOTTED, 0, 0], [BadRows, BadFunction, BadSlot]),
    (frames.places, [ROWS, 0, 3], [BadRows, BadFunction, BadRegisters]),
    (frames.placed, [ROWS, 3], [BadRows, BadRegisters]),
    (judging.judge, [ROWS, 0, 4, PLACINGS[0], PAPER], [BadRows, BadFunction, BadRegisters, BadPlacing, BadPaper]),
    (ownpapers.paper_of, [ROWS, 0, 4], [BadRows, BadFunction, BadRegisters]),
    (books.even_book, [4], [BadBeats]),
    (machine.Machine, [IMAGE, [1], books.even_book(2)], [BadImage, BadInputs, BadBook]),
    (objects.same_face, [OBJECT, OBJECT], [BadObject, BadObject]),
    (compiling.compiled, [UNIT, [("fold",)], 4], [BadUnit, BadPasses, BadRegisters]),
    (linking.linked, [MADE, "u", 100, True], [BadObjects, None, BadRoom, BadNeeded]),
    (linking.addresses, [MADE, "u", 100, False], [BadObjects, None, BadRoom, BadNeeded]),
    (linking.store_at, [STORED, "u", "s"], [BadObjects, NoStore, NoStore]),
    (led.is_led, [MADE[0]], [BadObject]),
    (prices.prices, [MADE[0], BOOK], [BadObject, BadBook]),
    (prices.sum_of, [prices.prices(MADE[0], BOOK), [(0, 0, ())]], [None, BadLabels]),
    (clocks.foretold, [MADE, BOOK, RUN.trace(), RUN.stations()], [BadObjects, BadBook, BadTrace, BadTrace]),
    (webs.useful, [WEB], [BadWeb]),
    (words.measures, [WEB, WEB_WORDS], [BadWeb, BadWords]),
    (papers.heights, [WEB, 1, FITTING], [BadWeb, BadDen, BadPrices]),
    (papers.priced, [WEB], [BadWeb]),
    (imagewebs.web_of, [IMAGE, BOOK], [BadImage, BadBook]),
    (extremes.least, [WEB], [BadWeb]),
    (extremes.revalued, [WEB, (3, 4)], [BadWeb, BadWeights]),
    (labelwebs.label_web, [[MADE, MADE], "u", {}], [BadSides, NoMain, BadRounds]),
    (labelwebs.totals, [NAMES, [MADE], [BOOK]], [BadNames, BadSides, BadBooks]),
    (bounds.between, [MADE, "u", BOOK, {}], [BadObjects, NoMain, BadBook, BadRounds]),
    (bounds.gap, [MADE, MADE, "u", BOOK, {}], [BadObjects, BadObjects, NoMain, BadBook, BadRounds]),
    (needs.needed, [MADE, "u"], [BadObjects, NoMain]),
    (needs.depth_of, [MADE, "u", CHAIN], [BadObjects, NoMain, BadChain]),
    (labeltexts.label_text, [LABEL], [BadLabel]),
    (labeltexts.label_of, ["0.1@0.1"], [BadLabelText]),
    (labeltexts.passes_text, [[WORD]], [BadPasses]),
    (labeltexts.passes_of, ["fold dead"], [BadPassesText]),
    (bench.Bench, [PROGRAM, BOOK], [BadProgram, BadBook]),
)
# errors that a list of no objects has, in the place of that of its place
MORE_ERRORS = {BadSides: (BadSides, BadObjects)}
# values that are right for some parameters with these errors
LISTS_MAY_BE_EMPTY = (BadInputs, BadLabels, BadTrail, BadPasses, BadWords, BadNames, BadTrace)
WHOLES_MAY_BE_RIGHT = (BadFunction, BadSlot, BadSpot, BadTemp, BadTop, BadBeats, BadDen)


def answer_of(function, passed):
    """What a function answers; of a run what it tells after some items."""
    answer = function(*passed)
    if function in (meaning.Run, rowruns.RowRun):
        answer.go(5)
        return [answer.trace(), answer.stations(), answer.left(), answer.frames()]
    if function is machine.Machine:
        answer.go(50)
        return [answer.trace(), answer.stations(), answer.left(), answer.clocks(), answer.stacks(), answer.registers()]
    if function is bench.Bench:
        answer.go(50)
        return [answer.program, answer.names, answer.book, answer.told(), answer.profile(), answer.listing("u")]
    return answer


def may_be_right(value, error, function):
    """Whether a value may be right in a place with an error."""
    if value in ([], ()) and error in LISTS_MAY_BE_EMPTY or value == {} and error in (BadReadings, BadRounds):
        return True
    if isinstance(value, int) and not isinstance(value, bool) and error in WHOLES_MAY_BE_RIGHT:
        return True
    if isinstance(value, bool) and error is BadNeeded or isinstance(value, str) and error in (BadText, BadKind):
        return True
    if value is None and (error is BadRounds or function is bench.Bench):
        return True
    if error is BadPassesText and value == "":
        return True
    return value == [1] or value == (1,)


class ConventionsTest(unittest.TestCase):

    def test_parameters_are_checked_from_left_to_right(self):
        for function, right, errors in ASKED:
            for at, error in enumerate(errors):
                wrong = 7 if error is BadRounds or function is bench.Bench else None
                passed = right[:at] + [wrong] * (len(right) - at)
                if error is not None:
                    with self.assertRaises(error, msg=function.__name__):
                        function(*passed)

    def test_any_value_is_judged(self):
        odd = ODD_VALUES + (nested(1, 40), [nested((), 39)], {"x": nested("x", 38)}, meaning.Run(PROGRAM, []))
        for judge in JUDGES:
            for value in odd:
                self.assertIs(type(judge(value)), bool, judge.__name__)
        for function, right, errors in ASKED:
            for at, error in enumerate(errors):
                for value in odd:
                    passed = right[:at] + [value] + right[at + 1:]
                    if error is not None and not may_be_right(value, error, function):
                        with self.assertRaises(MORE_ERRORS.get(error, error), msg=f"{function.__name__} {value}"):
                            function(*passed)

    def test_true_and_false_are_no_wholes(self):
        self.assertRaises(BadFunction, units.labels_of, UNIT, False)
        self.assertRaises(BadTrail, kinds.inner_kind, KIND, (True,))
        self.assertRaises(BadPath, texts.spot_of, UNIT, 0, (False,))
        self.assertRaises(BadInputs, meaning.Run, PROGRAM, [True])
        self.assertRaises(BadLabels, sourceroads.follows, PROGRAM, [("u", 0, False)])
        self.assertRaises(BadLabels, rowroads.blocks_of, [ROWS], [("u", (False, 0, ()))])
        self.assertFalse(kinds.is_kind(("row", True, "number")))
        self.assertFalse(codelabels.is_station((False, 0)))

    def changed(self, value):
        """All values that have a list in the place of one tuple of this one."""
        if isinstance(value, tuple):
            yield list(value)
            for at, part in enumerate(value):
                for told in self.changed(part):
                    yield value[:at] + (told,) + value[at + 1:]

    def test_a_list_where_a_tuple_is_expected(self):
        right = (
            (kinds.is_kind, KIND), (codelabels.is_code_label, LABEL), (codelabels.is_station, (0, 1)),
            (units.is_unit, UNIT), (units.is_program, PROGRAM), (sourceroads.is_road_book, ROADS), (loose.is_loose, ROWS),
            (rows.is_rows, ROWS), (reading.is_reading, READING), (passes.is_word, WORD), (is_some_cell, CELL),
            (is_some_placing, PLACINGS[0]), (images.is_image, IMAGE), (objects.is_object, OBJECT), (webs.is_web, WEB))
        for judge, value in right:
            self.assertIs(judge(value), True)
            for told in self.changed(value):
                self.assertIs(judge(told), False, told)

    def test_a_tuple_where_a_list_is_expected(self):
        for function, right, _ in ASKED:
            told = [tuple(value) if isinstance(value, list) else value for value in right]
            self.assertEqual(answer_of(function, told), answer_of(function, right))

    def test_what_was_returned_may_be_changed(self):
        for function, right, _ in ASKED:
            answer = answer_of(function, right)
            before = copy.deepcopy(answer)
            if isinstance(answer, (list, dict)):
                answer.clear()
            self.assertEqual(answer_of(function, right), before)

    def test_what_is_passed_in_is_not_changed(self):
        for function, right, _ in ASKED:
            before = copy.deepcopy(right)
            answer_of(function, right)
            self.assertEqual(right, before)

    def test_equal_arguments_give_equal_results(self):
        for function, right, _ in ASKED:
            self.assertEqual(answer_of(function, copy.deepcopy(right)), answer_of(function, right))

    def test_all_errors_are_clock_errors_and_value_errors(self):
        for function, right, _ in ASKED:
            for kind in (ClockError, ValueError):
                self.assertRaises(kind, function, *[None] * len(right))

    def test_limits(self):
        self.assertEqual(len(lines.tokens_of("a " * 10000)), 10002)
        self.assertEqual(len(lines.tokens_of("\n" * 20000)), 1)
        self.assertRaises(BadText, readtexts.program_of, "(" * 20000)
        self.assertTrue(readtexts.program_of(readtexts.completed("(" * 20000)))
        for judge in JUDGES:
            for value in ("a" * 20000, (None,) * 100000, [0] * 100000, 10 ** 99, -10 ** 99):
                self.assertIs(judge(value), False)
