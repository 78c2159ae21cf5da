"""[85]: texts of code labels and of pass words."""

import unittest

from labelclocks.codelabels import is_code_label
from labelclocks.errors import BadLabel, BadLabelText, BadPasses, BadPassesText
from labelclocks.labeltexts import label_of, label_text, passes_of, passes_text
from labelclocks.passes import is_word
from tests.checks import ODD_VALUES
from tests.makers import dice_of

PLAIN = ("fold", "copies", "dead", "twice", "thread", "last")
SIGNS = "0123456789.@<>: abc-+_\n"


def label_by_dice(dice):
    way = tuple((dice.choice(("at", "first", "later")), dice.randrange(6), dice.choice((0, 7, 42, 999))) for _ in range(dice.randrange(9)))
    return (dice.randrange(6), dice.randrange(1000), way)


def word_by_dice(dice):
    if dice.random() < 0.5:
        return (dice.choice(PLAIN),)
    return (dice.choice(("lay", "peel")), label_by_dice(dice))


def changed(text, dice):
    """The text with one sign exchanged, put in or left out."""
    at = dice.randrange(len(text) + 1)
    return text[:at] + dice.choice(SIGNS + "x") * dice.randrange(2) + text[at + dice.randrange(2):]


class LabelTextTest(unittest.TestCase):

    def test_example(self):
        label = (0, 3, (("at", 1, 2), ("later", 0, 1)))
        self.assertEqual(label_text(label), "0.3@1.2>0.1")
        self.assertEqual(label_of("0.3@1.2>0.1"), label)
        self.assertEqual(label_text(label=(5, 999, ())), "5.999")
        self.assertEqual(label_of(text="0.0<5.999"), (0, 0, (("first", 5, 999),)))

    def test_both_ways(self):
        for seed in range(400):
            label = label_by_dice(dice_of(seed))
            text = label_text(label)
            self.assertEqual(label_of(text), label)
            f, k, way = label
            signs = {"at": "@", "first": "<", "later": ">"}
            self.assertEqual(text, f"{f}.{k}" + "".join(f"{signs[word]}{g}.{j}" for word, g, j in way))

    def test_wrong_labels(self):
        for value in ODD_VALUES + ((0, 1), (6, 0, ()), (0, 1000, ()), (0, 0, []), (0, True, ()), (0, 0, (("by", 0, 0),)), (0, 0, (("at", 0, 0),) * 9)):
            self.assertRaises(BadLabel, label_text, value)

    def test_wrong_texts(self):
        for value in ODD_VALUES + (
                "0", "0.", ".0", "0.0.0", "0.1@", "@0.1", "0.1@1", "0.1 @1.2", " 0.1", "0.1 ", "00.1", "0.01", "6.0", "0.1000", "0.1@6.0", "0.1>0.1000",
                "0.-1", "+0.1", "0.1@@1.2", "0.1#1.2", "a.b", "0,1", "0.1@0.0" + "@0.0" * 8, "0.1\n", "0.1@01.2", "0.1<1.02", "\u0660.1", "1\u00b2.0",
                "0.1@" + "9" * 40 + ".1", "9" * 5000 + ".0", "0." + "1" * 19998):
            self.assertRaises(BadLabelText, label_of, value)
        self.assertEqual(len(label_of("0.1" + "@0.0" * 8)[2]), 8)

    def test_one_sign_otherwise(self):
        wrong = 0
        for seed in range(3000):
            dice = dice_of(seed)
            text = changed(label_text(label_by_dice(dice)), dice)
            try:
                label = label_of(text)
            except BadLabelText:
                wrong += 1
                continue
            self.assertTrue(is_code_label(label))
            self.assertEqual(label_text(label), text)
        self.assertGreater(wrong, 1000)


class PassesTextTest(unittest.TestCase):

    def test_both_ways(self):
        self.assertEqual(passes_text([]), "")
        self.assertEqual(passes_of(""), [])
        self.assertEqual(passes_text([("fold",), ("lay", (0, 1, ())), ("peel", (1, 2, (("at", 0, 1),)))]), "fold lay:0.1 peel:1.2@0.1")
        self.assertEqual(passes_of(text="fold lay:0.1 peel:1.2@0.1"), [("fold",), ("lay", (0, 1, ())), ("peel", (1, 2, (("at", 0, 1),)))])
        for word in PLAIN:
            self.assertEqual(passes_of(word), [(word,)])
        for seed in range(200):
            dice = dice_of(seed)
            words = [word_by_dice(dice) for _ in range(dice.randrange(8))]
            self.assertEqual(passes_of(passes_text(words)), words)
            self.assertEqual(passes_text(words=tuple(words)), passes_text(words))

    def test_forty_words(self):
        for many in (39, 40):
            self.assertEqual(passes_of(passes_text([("fold",)] * many)), [("fold",)] * many)
        with self.assertRaises(BadPasses) as caught:
            passes_text([("fold",)] * 41)
        self.assertEqual(caught.exception.index, -1)
        for many in (41, 100):
            with self.assertRaises(BadPassesText) as caught:
                passes_of(" ".join(["fold"] * many))
            self.assertEqual(caught.exception.index, 40)
        # a wrong piece comes first, wherever it stands
        for at in (0, 39, 40, 45):
            with self.assertRaises(BadPassesText) as caught:
                passes_of(" ".join(["fold"] * at + ["fol"] + ["dead"] * 50))
            self.assertEqual(caught.exception.index, at)

    def test_wrong_words(self):
        for value in ODD_VALUES:
            if value not in ([], ()):
                with self.assertRaises(BadPasses) as caught:
                    passes_text(value)
                self.assertEqual(caught.exception.index, 0 if isinstance(value, (list, tuple)) else -1)
        for word in (None, "fold", ("folds",), ("lay",), ("fold", (0, 1, ())), ("lay", (0, 1)), ["fold"]):
            with self.assertRaises(BadPasses) as caught:
                passes_text([("fold",), ("dead",), word, word])
            self.assertEqual(caught.exception.index, 2)

    def test_wrong_texts(self):
        for value in ODD_VALUES:
            if not isinstance(value, str):
                with self.assertRaises(BadPassesText) as caught:
                    passes_of(value)
                self.assertIsNone(caught.exception.index)
        for piece in ("Fold", "fold:", "fold:0.1", "lay", "lay:", "peel:0", "lay:0.1:", "lay:0.1,", "lay0.1", ":0.1", "lay: 0.1", "last:", "by:0.1", "", "fold\n", "lay:6.0"):
            for at in range(3):
                with self.assertRaises(BadPassesText) as caught:
                    passes_of(" ".join(["dead"] * at + [piece] + ["last", "no"]))
                self.assertEqual(caught.exception.index, at)
        for text, index in ((" ", 0), ("fold ", 1), (" fold", 0), ("fold  dead", 1), ("  ", 0)):
            with self.assertRaises(BadPassesText) as caught:
                passes_of(text)
            self.assertEqual(caught.exception.index, index)

    def test_one_sign_otherwise(self):
        for seed in range(3000):
            dice = dice_of(seed)
            text = changed(passes_text([word_by_dice(dice) for _ in range(dice.randint(1, 4))]), dice)
            try:
                words = passes_of(text)
            except BadPassesText as error:
                pieces = text.split(" ")
                self.assertTrue(all(is_word(passes_of(piece)[0]) for piece in pieces[:error.index]))
                if pieces[error.index]:
                    self.assertRaises(BadPassesText, passes_of, pieces[error.index])
                continue
            self.assertEqual(passes_text(words), text)


if __name__ == "__main__":
    unittest.main()
