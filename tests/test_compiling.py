"""[66], compiled: what units become."""

import unittest

from labelclocks.compiling import compiled
from labelclocks.errors import BadPasses, BadRegisters, BadUnit, NotHere, TooLarge
from labelclocks.frames import placed
from labelclocks.led import is_led
from labelclocks.lowering import lowered
from labelclocks.objects import is_object, same_face
from labelclocks.passes import chosen
from labelclocks.readtexts import unit_of
from labelclocks.sourceroads import road_book
from tests.checks import ODD_VALUES
from tests.compile import two
from tests.heart import made_by_dice
from tests.link import is_led as is_led_code
from tests.makers import dice_of, make_program

WORDS = (
    [("fold",)], [("copies",), ("dead",)], [("twice",), ("thread",)], [("last",)], [("lay", (0, 3, ()))],
    [("peel", (0, 1, ())), ("lay", (0, 3, (("later", 0, 1),))), ("fold",), ("dead",), ("thread",)])


class CompiledTest(unittest.TestCase):

    def ask(self, unit, words, registers):
        made = compiled(unit, words, registers)
        rows, reading = chosen(unit, words)
        self.assertIs(is_object(made), True)
        self.assertIs(is_led(made), True)
        self.assertTrue(all(is_led_code(function[4]) for function in made[6]))
        self.assertEqual(made[:6], ("object", unit[0], unit[1], registers, unit[2], rows[4]))
        self.assertEqual(made[7:], (reading, road_book(unit)))
        for code, function, (cells, frame) in zip(rows[5], made[6], placed(rows, registers)):
            self.assertEqual(function[:3], code[:3])
            self.assertEqual(function[3:], (frame, cells))
        return made

    def test_without_words(self):
        for unit in two():
            made = self.ask(unit, (), 8)
            self.assertEqual(compiled(unit), made)
            self.assertEqual(compiled(unit=unit, registers=8, words=[]), made)
            self.assertEqual(made[7], ((), (), ()))
            self.assertEqual(made[5], lowered(unit)[4])

    def test_words_and_registers(self):
        unit = two()[0]
        for words in WORDS[:3] + WORDS[4:]:
            for registers in range(3, 9):
                made = self.ask(unit, words, registers)
                self.assertIs(same_face(made, compiled(unit)), True)
        self.ask(two()[1], WORDS[3], 5)

    def test_words_by_dice(self):
        for seed in range(20):
            dice = dice_of(seed)
            for unit in make_program(dice, nodes=60):
                self.ask(unit, made_by_dice(dice, unit, 5)[2], dice.randint(3, 8))

    def test_the_unit_alone_counts(self):
        unit = two()[0]
        self.assertEqual(compiled(unit, WORDS[5], 4), compiled(two()[0], tuple(WORDS[5]), 4))
        # what it uses is nowhere asked
        self.assertEqual(compiled(unit)[4], unit[2])

    def test_errors_in_order(self):
        unit = two()[0]
        for value in ODD_VALUES:
            self.assertRaises(BadUnit, compiled, value, None, None)
        for value, index in ((None, -1), ("fold", -1), ({}, -1), ([("fold",)] * 41, -1), ([("fold",), "dead"], 1), ([1], 0)):
            with self.assertRaises(BadPasses) as caught:
                compiled(unit, value, None)
            self.assertEqual(caught.exception.index, index)
        self.assertRaises(NotHere, compiled, unit, [("lay", (0, 1, ()))], 99)
        self.assertRaises(NotHere, compiled, unit, [("last",), ("last",)], None)
        for value in (2, 9, None, True, "8", (), -1):
            self.assertRaises(BadRegisters, compiled, unit, [], value)

    def test_too_large_passes(self):
        text = "unit u size 10\nfunction main()\nfunction f()\nbody main\n  call f()\nbody f\n  call f()"
        words = [("lay", (1, 1, (("at", 1, 1),) * many)) for many in (0, 1, 3, 7)]
        self.assertTrue(compiled(unit_of(text), words[:3]))
        self.assertRaises(TooLarge, compiled, unit_of(text), words, None)

    def test_too_large_frames(self):
        names = ["a", "b", "c", "d", "e", "g"]
        locals_told = "".join(f"\n  local {name} row 40 row 10 number" for name in names)
        text = f"unit u size 10\nfunction main()\nfunction f()\nbody main\n  call f()\n  call f()\nbody f{locals_told}"
        unit = unit_of(text)
        self.assertEqual(compiled(unit)[6][1][3], 2400)
        words = [("lay", (0, 1, ()))]
        self.assertEqual(compiled(unit, words)[6][0][3], 2400)
        words.append(("lay", (0, 2, ())))
        self.assertRaises(TooLarge, compiled, unit, words)
        # errors of registers come first
        self.assertRaises(BadRegisters, compiled, unit, words, 2)


if __name__ == "__main__":
    unittest.main()
