"""[5]: the errors and their fields."""

import ast
import inspect
import unittest

from labelclocks import errors
from labelclocks.errors import ClockError

WITH_MESSAGE = """
BadAddress BadBeats BadBook BadBooks BadCell BadChain BadDen BadFunction BadImage BadInputs BadItems BadKind BadLabel
BadLabelText BadMany BadName BadNames BadNeeded BadObject BadObjects BadOrder BadPaper BadPath BadPlacing BadPrices
BadProgram BadReading BadReadings BadRegisters BadRoads BadRoom BadRounds BadRows BadSides BadSlot BadSpot BadSteps
BadTemp BadTop BadTrace BadTrail BadUnit BadWeb BadWeights BadWord BadWords NoMain NoRoad NotHere NotLed NothingDone
TooLarge UnlikeSides UnlikeSizes
""".split()
WITH_VALUES = {
    "BadLabels": ["index"], "BadPasses": ["index"], "BadPassesText": ["index"], "BadText": ["line", "column"],
    "Missing": ["unit", "index"], "NoLabel": ["index"], "NoStore": ["unit", "store"], "NoUnit": ["name"],
    "NotKept": ["name"], "TooLong": ["most"], "TooMany": ["most"], "Twice": ["name"], "Unlike": ["unit", "index"],
}


class ErrorsTest(unittest.TestCase):

    def test_all_are_there_and_stand_directly_under_clock_error(self):
        for name in WITH_MESSAGE + list(WITH_VALUES):
            error = getattr(errors, name)
            self.assertEqual(error.__bases__, (ClockError,), name)
        self.assertEqual(ClockError.__bases__, (ValueError,))

    def test_there_are_no_others(self):
        found = [name for name, value in vars(errors).items() if inspect.isclass(value)]
        self.assertEqual(sorted(found), sorted(["ClockError"] + WITH_MESSAGE + list(WITH_VALUES)))

    def test_those_with_a_message(self):
        for name in WITH_MESSAGE:
            error = getattr(errors, name)("what is wrong")
            self.assertEqual(str(error), "what is wrong")
            self.assertIsInstance(error, ValueError)

    def test_those_with_values(self):
        values = [(1, 2), [None, {}], ("a", ("b",)), (True, -1)]
        for name, fields in WITH_VALUES.items():
            for told in values:
                told = told[:len(fields)]
                error = getattr(errors, name)(*told)
                for field, value in zip(fields, told):
                    self.assertIs(getattr(error, field), value)
                by_name = getattr(errors, name)(**dict(zip(fields, told)))
                for field, value in zip(fields, told):
                    self.assertIs(getattr(by_name, field), value)
                self.assertIsInstance(error, ValueError)

    def test_values_may_be_too_large_to_be_written(self):
        value = ()
        for _ in range(40):
            value = (value, value)
        self.assertIs(errors.NoUnit(value).name, value)
        self.assertLess(len(str(errors.NoStore(value, value))), 100)

    def test_they_are_equal_to_nothing_else(self):
        self.assertNotEqual(errors.BadText(1, 2), errors.BadText(1, 2))

    def test_the_file_holds_only_classes(self):
        tree = ast.parse(inspect.getsource(errors))
        for node in tree.body[1:]:
            self.assertIsInstance(node, ast.ClassDef)
