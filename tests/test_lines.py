"""[10]: tokens."""

import unittest

from labelclocks.errors import BadText
from labelclocks.lines import tokens_of
from tests.checks import token_pairs


def told(text):
    return [token for _, _, _, token in tokens_of(text)]


class LinesTest(unittest.TestCase):

    def test_words_and_signs(self):
        self.assertEqual(told("ab 3x 007 a_B"), ["ab", "3x", "007", "a_B", "\n", ""])
        self.assertEqual(told("s[i].b=(a+1)"), ["s", "[", "i", "]", ".", "b", "=", "(", "a", "+", "1", ")", "\n", ""])
        self.assertEqual(told("<==-->"), ["<", "=", "=", "-", "-", ">", "\n", ""])
        self.assertEqual(told("_"), ["_", "\n", ""])
        self.assertEqual(told("\t!\r"), ["\t", "!", "\r", "\n", ""])

    def test_letters_beyond_a_to_z_are_signs(self):
        self.assertEqual(told("a\u00e9\u0663b\u00b2"), ["a", "\u00e9", "\u0663", "b", "\u00b2", "\n", ""])

    def test_places_and_indents(self):
        self.assertEqual(tokens_of("  ab  (c"), [
            (1, 3, 2, "ab"), (1, 7, None, "("), (1, 8, None, "c"), (1, 9, None, "\n"), (2, 1, None, "")])

    def test_any_number_of_blanks_between(self):
        self.assertEqual(token_pairs("a(b , c)"), token_pairs("a   ( b,c )   "))
        self.assertNotEqual(token_pairs("ab"), token_pairs("a b"))
        self.assertNotEqual(token_pairs(" a"), token_pairs("a"))

    def test_the_end_of_a_line_stands_behind_its_last_token(self):
        self.assertEqual(tokens_of("ab   # x")[1], (1, 3, None, "\n"))
        self.assertEqual(tokens_of("ab   ")[1], (1, 3, None, "\n"))

    def test_remarks(self):
        self.assertEqual(told("a # b # c\nd#e"), ["a", "\n", "d", "\n", ""])
        self.assertEqual(told("# a"), [""])

    def test_lines_without_tokens(self):
        self.assertEqual(tokens_of("\n   \n# x\na\n  # y\n"), [(4, 1, 0, "a"), (4, 2, None, "\n"), (7, 1, None, "")])

    def test_the_end_of_the_text(self):
        self.assertEqual(tokens_of(""), [(2, 1, None, "")])
        self.assertEqual(tokens_of("a")[-1], (2, 1, None, ""))
        self.assertEqual(tokens_of("a\n")[-1], (3, 1, None, ""))
        self.assertEqual(tokens_of("a\n\n\n")[-1], (5, 1, None, ""))
        self.assertEqual(tokens_of("\n")[-1], (3, 1, None, ""))

    def test_only_the_newline_ends_a_line(self):
        self.assertEqual(len(tokens_of("a\rb\x0bc\u2028d")), 9)

    def test_no_string(self):
        for value in (None, 1, True, ["a"], b"a", (), {"a": 1}):
            with self.assertRaises(BadText) as caught:
                tokens_of(value)
            self.assertEqual((caught.exception.line, caught.exception.column), (1, 1))

    def test_what_is_returned_is_new(self):
        tokens_of("a").append(1)
        self.assertEqual(len(tokens_of("a")), 3)

    def test_by_name(self):
        self.assertEqual(tokens_of(text="a"), tokens_of("a"))
