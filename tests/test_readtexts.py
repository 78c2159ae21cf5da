"""[14], [15]: right and wrong tokens, the readers and the two that complete."""

import unittest

from labelclocks.errors import BadText, TooLarge
from labelclocks.lines import tokens_of
from labelclocks.readtexts import completed, completed_unit, kind_of, program_of, unit_of
from labelclocks.texts import kind_text, program_text, unit_text
from tests.checks import token_pairs, wrong_spot
from tests.makers import dice_of, make_deep_unit, make_kind, make_program

EXAMPLE = """unit u size 10
use v.f(worth number) truth
store s row 3 record(a number, b truth)
function main()
body main
  local i number
  while (i < 3)
    s[i].b = call v.f(s[i].a)
    i = (i + 1)"""
OTHER = "unit v size 10\nfunction f(worth n0 number) truth\nbody f"
# heads for trying statements in; the body begins in line 12
HEADS = """unit u size 10
use v.f(worth number) truth
use v.h(place record(a number, b truth))
store s row 3 record(a number, b truth)
store t truth
function main()
function f(place q row 2 number) number
function h(worth p truth)
body main
  local x number
  local y row 2 row 2 truth
"""


class Asked(unittest.TestCase):

    def is_right(self, read, text):
        self.assertIsNone(wrong_spot(read, text), text)

    def is_wrong(self, read, text, line, column):
        self.assertEqual(wrong_spot(read, text), (line, column), text)

    def statement(self, line, column, behind="\nbody f\nbody h", ahead=HEADS):
        """Asks where in the first line of statements the first wrong token of a unit is."""
        text = ahead + line + behind
        told = None if column is None else (ahead.count("\n") + 1, column)
        self.assertEqual(wrong_spot(unit_of, text), told, line)


class ExampleTest(Asked):

    def with_line(self, line):
        lines = EXAMPLE.split("\n")
        return "\n".join(lines[:7] + ["    " + line] + lines[8:])

    def test_all_its_places(self):
        self.is_wrong(program_of, EXAMPLE, 10, 1)
        self.is_wrong(program_of, self.with_line("s[i] = 4"), 8, 10)
        self.is_wrong(program_of, self.with_line("s[i].a = call"), 8, 14)
        self.is_wrong(program_of, self.with_line("i.a = 4"), 8, 6)
        self.is_wrong(program_of, self.with_line("s[(i < 2)].a = 1"), 8, 10)

    def test_it_is_completed(self):
        told = completed(EXAMPLE)
        pairs = token_pairs(EXAMPLE)[:-1]
        self.assertEqual(token_pairs(told)[:len(pairs)], pairs)
        self.assertEqual(len(program_of(told)), 2)
        program = program_of(EXAMPLE + "\n" + OTHER)
        self.assertEqual(program_text(program), EXAMPLE + "\n" + OTHER)
        self.assertEqual(unit_of(EXAMPLE), program[0])


class ReadAgainTest(Asked):

    def test_what_was_written(self):
        for seed in range(60):
            kind = make_kind(dice_of(seed), 300)
            self.assertEqual(kind_of(kind_text(kind)), kind)
            program = make_program(dice_of(seed), 90)
            self.assertEqual(program_of(program_text(program)), program)
            for unit in program:
                self.assertEqual(unit_of(unit_text(unit)), unit)

    def test_what_comes_near_the_greatest_depth(self):
        for seed in range(300):
            unit = make_deep_unit(dice_of(seed), 130)
            self.assertEqual(program_of(program_text((unit,))), (unit,))

    def test_further_blanks_lines_and_remarks(self):
        text = "# x\n\n  " + "# y\n" + EXAMPLE.replace(" size", "   size").replace("(i", "( i").replace("\n", " # n\n \n")
        self.assertEqual(unit_of(text + "  # end\n\n"), unit_of(EXAMPLE))
        self.assertEqual(unit_of(EXAMPLE.replace("s[i].b", "s [ i ] . b")), unit_of(EXAMPLE))
        self.assertEqual(kind_of("row 3 record ( a number,b truth )  \n#"), kind_of("row 3 record(a number, b truth)"))

    def test_by_name(self):
        self.assertEqual(unit_of(text=EXAMPLE), unit_of(EXAMPLE))
        self.assertEqual(kind_of(text="truth"), "truth")
        self.assertEqual(program_of(text=completed(text=EXAMPLE))[:1], (unit_of(completed_unit(text=EXAMPLE)),))

    def test_no_strings(self):
        for read in (kind_of, unit_of, program_of, completed, completed_unit):
            for value in (None, 1, True, [EXAMPLE], (), {}, b"unit"):
                self.is_wrong(read, value, 1, 1)


class KindsTest(Asked):

    def test_first_tokens(self):
        self.is_wrong(kind_of, "", 2, 1)
        self.is_wrong(kind_of, "\n# x\n", 4, 1)
        self.is_wrong(kind_of, " number", 1, 2)
        self.is_wrong(kind_of, "word", 1, 1)
        self.is_wrong(kind_of, "numbers", 1, 1)
        self.is_wrong(kind_of, "number number", 1, 8)
        self.is_wrong(kind_of, "number\nnumber", 2, 1)
        self.is_right(kind_of, "\n\nnumber\n")

    def test_rows(self):
        for items in ("1", "64"):
            self.is_right(kind_of, f"row {items} number")
        for items in ("0", "65", "01", "1x", "-1", "number", "", "99999999999999999999", "1" * 5000, "(", "\u0663"):
            self.is_wrong(kind_of, f"row {items} number".replace("  ", " "), 1, 5)
        self.is_wrong(kind_of, "row 3", 1, 6)
        self.is_wrong(kind_of, "row 3 row", 1, 10)
        self.is_wrong(kind_of, "row 3\nnumber", 1, 6)

    def test_records(self):
        self.is_right(kind_of, "record(a number)")
        self.is_wrong(kind_of, "record()", 1, 8)
        self.is_wrong(kind_of, "record a number", 1, 8)
        self.is_wrong(kind_of, "record(if number)", 1, 8)
        self.is_wrong(kind_of, "record(a)", 1, 9)
        self.is_wrong(kind_of, "record(a number b truth)", 1, 17)
        self.is_wrong(kind_of, "record(a number,)", 1, 17)
        self.is_wrong(kind_of, "record(a number, a truth)", 1, 18)
        self.is_wrong(kind_of, "record(a number, b", 1, 19)
        fields = ", ".join(f"a{at} number" for at in range(6))
        self.is_right(kind_of, f"record({fields})")
        self.is_wrong(kind_of, f"record({fields}, b truth)", 1, len(f"record({fields}") + 1)

    def test_depth(self):
        self.is_right(kind_of, "row 1 row 1 row 1 number")
        self.is_wrong(kind_of, "row 1 row 1 row 1 row 1 number", 1, 19)
        self.is_wrong(kind_of, "row 1 record(a row 1 record(b number))", 1, 22)
        self.is_right(kind_of, "row 1 record(a row 1 truth, b record(c truth))")

    def test_words(self):
        self.is_right(kind_of, "row 40 row 10 number")
        self.is_wrong(kind_of, "row 40 row 11 number", 1, 12)
        self.is_wrong(kind_of, "row 7 row 58 number", 1, 11)
        self.is_right(kind_of, "row 7 row 57 number")
        self.is_right(kind_of, "row 20 row 20 number")
        self.is_wrong(kind_of, "row 20 row 20 row 2", 1, 19)
        self.is_wrong(kind_of, "row 20 row 20 record(a truth, b truth)", 1, 29)
        self.is_wrong(kind_of, "record(a row 40 row 10 number, b truth)", 1, 30)
        self.is_wrong(kind_of, "record(a truth, b row 40 row 10 number)", 1, 30)
        self.is_right(kind_of, "record(a truth, b row 57 row 7 number)")


class HeadsTest(Asked):

    def test_first_lines(self):
        self.is_wrong(unit_of, "", 2, 1)
        self.is_wrong(unit_of, "use", 1, 1)
        self.is_wrong(unit_of, " unit u size 10", 1, 2)
        self.is_wrong(unit_of, "unit if size 10", 1, 6)
        self.is_wrong(unit_of, "unit u1234567x", 1, 6)
        self.is_wrong(unit_of, "unit u 10", 1, 8)
        for size in ("1", "0", "10001", "010", "1x", "x"):
            self.is_wrong(unit_of, f"unit u size {size}\nfunction f()\nbody f", 1, 13)
        for size in ("2", "10000"):
            self.is_right(unit_of, f"unit u size {size}\nfunction f()\nbody f")
        self.is_wrong(unit_of, "unit u size", 1, 12)
        self.is_wrong(unit_of, "unit u size 10 10", 1, 16)
        self.is_wrong(unit_of, "unit u size 10\n", 3, 1)
        self.is_wrong(unit_of, "unit u size 10\nbody f", 2, 1)
        self.is_wrong(unit_of, "unit u size 10\n function f()", 2, 2)

    def head(self, lines, line, column, read=unit_of):
        text = "unit u size 10\n" + lines
        if line is None:
            self.is_right(read, text)
        else:
            self.is_wrong(read, text, line, column)

    def test_uses(self):
        behind = "\nfunction f()\nbody f"
        self.head("use v.f()" + behind, None, 0)
        self.head("use v.f(worth number, place row 2 truth) number" + behind, None, 0)
        self.head("use u.f()" + behind, 2, 5)
        self.head("use if.f()" + behind, 2, 5)
        self.head("use v f()" + behind, 2, 7)
        self.head("use v.if()" + behind, 2, 7)
        self.head("use v.f" + behind, 2, 8)
        self.head("use v.f(number)" + behind, 2, 9)
        self.head("use v.f(worth row 2 number)" + behind, 2, 15)
        self.head("use v.f(place x number)" + behind, 2, 15)
        self.head("use v.f(worth number,)" + behind, 2, 22)
        self.head("use v.f() row" + behind, 2, 11)
        self.head("use v.f() number truth" + behind, 2, 18)
        self.head("use v.f()\nuse v.f()" + behind, 3, 7)
        self.head("use v.f()\nuse v.g()" + behind, None, 0)
        ways = ", ".join(["worth number"] * 4)
        self.head(f"use v.f({ways})" + behind, None, 0)
        self.head(f"use v.f({ways}, worth number)" + behind, 2, len(f"use v.f({ways}") + 1)
        uses = "\n".join(f"use v{at}.f()" for at in range(6))
        self.head(uses + behind, None, 0)
        self.head(uses + "\nuse w.g()" + behind, 8, 1)

    def test_stores_and_their_order(self):
        behind = "\nfunction f()\nbody f"
        self.head("store s number" + behind, None, 0)
        self.head("store s number\nstore s truth" + behind, 3, 7)
        self.head("store if number" + behind, 2, 7)
        self.head("store s" + behind, 2, 8)
        self.head("store s row 2 number, " + behind, 2, 21)
        self.head("store s number\nuse v.f()" + behind, 3, 1)
        self.head("function f()\nstore s number" + behind, 3, 1)
        self.head("function g()\nuse v.f()" + behind, 3, 1)
        stores = "\n".join(f"store s{at} number" for at in range(6))
        self.head(stores + behind, None, 0)
        self.head(stores + "\nstore w truth" + behind, 8, 1)

    def test_functions(self):
        self.head("function f(worth p number, place q row 2 truth) truth\nbody f", None, 0)
        self.head("function f(worth p row 2 truth)\nbody f", 2, 20)
        self.head("function f(worth number)\nbody f", 2, 18)
        self.head("function f(worth p number, place p truth)\nbody f", 2, 34)
        self.head("store p truth\nfunction f(worth p number)\nbody f", 3, 18)
        self.head("function f()\nfunction f()", 3, 10)
        self.head("function if()", 2, 10)
        self.head("function f", 2, 11)
        self.head("function f() record", 2, 14)
        functions = "\n".join(f"function f{at}()" for at in range(6))
        bodies = "\n".join(f"body f{at}" for at in range(6))
        self.head(functions + "\n" + bodies, None, 0)
        self.head(functions + "\nfunction g()\n" + bodies, 8, 1)

    def test_bodies_come_in_their_order(self):
        self.head("function f()\nfunction g()\nbody g\nbody f", 4, 6)
        self.head("function f()\nfunction g()\nbody f", 5, 1)
        self.head("function f()\nfunction g()\nbody f\nbody g\nbody f", 6, 1)
        self.head("function f()\nbody f\nfunction g()", 4, 1)
        self.head("function f()\nbody f g", 3, 8)
        self.head("function f()\n  body f", 3, 3)
        self.head("function f()\nbody f\nunit v size 10", 4, 1)

    def test_locals(self):
        ahead = "store s truth\nfunction f(worth p number)\nbody f\n"
        self.head(ahead + "  local x number\n  local y row 2 truth", None, 0)
        for name in ("s", "p", "if", "x"):
            self.head(ahead + f"  local x truth\n  local {name} number", 6, 9)
        self.head(ahead + "  local f number\n  local u number", None, 0)
        self.head(ahead + "local x number", 5, 1)
        self.head(ahead + " local x number", 5, 2)
        self.head(ahead + "    local x number", 5, 5)
        self.head(ahead + "  local x", 5, 10)
        self.head(ahead + "  fail 1\n  local x number", 6, 3)
        names = "\n".join(f"  local x{at} number" for at in range(6))
        self.head(ahead + names, None, 0)
        self.head(ahead + names + "\n  local y truth", 11, 3)


class StatementsTest(Asked):

    def test_simple_ones(self):
        for line in (
                "x = 9", "t = yes", "s[0].a = x", "show 5 (x + 1)", "ask s[x].a", "fail 9", "give", "t = call v.f(x)",
                "call v.h(s[(x rest 3)])", "call h(t)", "y[1][0] = (not t)", "if t",
                "while (t and (x < 3))", "t = ((x + 1) = (x * 2))", "t = (not (not y[0][0]))", "call main()"):
            self.statement("  " + line, None)

    def test_puts(self):
        self.statement("  x", 4)
        self.statement("  x 3", 5)
        self.statement("  x = yes", 7)
        self.statement("  x = t", 7)
        self.statement("  t = 3", 7)
        self.statement("  t = 0", 7)
        self.statement("  if 0", 6)
        self.statement("  t = (not 0)", 12)
        self.statement("  t = x", 7)
        self.statement("  x = 10", 7)
        self.statement("  x = 09", 7)
        self.statement("  x = 3x", 7)
        self.statement("  x = s", 8)
        self.statement("  x = s[1]", 11)
        self.statement("  x = s[1].b", 12)
        self.statement("  x = y", 7)
        self.statement("  z = 1", 3)
        self.statement("  p = 1", 3)
        self.statement("  main = 1", 3)
        self.statement("  x = 1 1", 9)
        self.statement("  x.a = 1", 4)
        self.statement("  x[1] = 1", 4)
        self.statement("  s.a = 1", 4)
        self.statement("  s[1].c = 1", 8)
        self.statement("  s[1][1] = 1", 7)
        self.statement("  y[1] = yes", 8)
        self.statement("  y[t][1] = yes", 5)
        self.statement("  y[s[0].b][1] = yes", 10)
        self.statement("  y[1 = yes", 7)

    def test_brackets(self):
        self.statement("  x = (x)", 9)
        self.statement("  x = (x + )", 12)
        self.statement("  x = (x < 1)", 10)
        self.statement("  t = (x + 1)", 10)
        self.statement("  t = ((x + 1) + 1)", 16)
        self.statement("  t = (x and t)", 10)
        self.statement("  t = (t + t)", 10)
        self.statement("  t = (t < t)", 10)
        self.statement("  t = (t and x)", 14)
        self.statement("  t = (x < t)", 12)
        self.statement("  x = (not t)", 8)
        self.statement("  t = (not x)", 12)
        self.statement("  t = (not 1)", 12)
        self.statement("  t = not t", 7)
        self.statement("  t = (x = 1", 13)
        self.statement("  t = (x - 1 = 2)", 10)
        self.statement("  t = (yes or no))", 18)
        self.statement("  t = (s[1].a = 1)", None)
        self.statement("  t = (s[1].b = 1)", 15)

    def test_calls(self):
        self.statement("  call g()", 8)
        self.statement("  call v.g()", 10)
        self.statement("  call v()", 9)
        self.statement("  call w.f()", 8)
        self.statement("  call h.h(t)", 9)
        self.statement("  call h", 9)
        self.statement("  call main(1)", 13)
        self.statement("  call h()", 10)
        self.statement("  call h(x)", 10)
        self.statement("  call h(t, t)", 11)
        self.statement("  t = call v.h(s[0])", 14)
        self.statement("  t = call h(t)", 12)
        self.statement("  t = call main()", 12)
        self.statement("  s[0] = call v.f(1)", 8)
        self.statement("  call v.h(s)", 13)
        self.statement("  call v.h(x)", 12)
        self.statement("  call v.h(s[0].a)", 16)
        self.statement("  call v.h((x + 1))", 12)
        self.statement("  call v.f(x) 1", 15)
        # f wants a place of kind row 2 number, and there is none
        self.statement("  call f(s)", 8)
        self.statement("  x = call f(s)", 7)

    def test_calls_that_nothing_can_answer(self):
        ahead = "unit u size 10\nfunction main(place q row 2 number) number\nbody main\n"
        self.statement("  call main(q)", None, "", ahead)
        self.statement("  local x number\n  x = call main(q)", None, "", ahead)
        ahead = "unit u size 10\nfunction f() truth\nfunction g(place q row 2 number) number\nbody f\n"
        self.statement("  call g(", 8, "\nbody g", ahead)
        self.statement("  call f()", None, "\nbody g", ahead)
        ahead = "unit u size 10\nfunction g(place q row 2 number) number\nfunction f()\nbody g\nbody f\n"
        self.statement("  call f()", None, "", ahead)
        ahead = "unit u size 10\nuse v.g(place row 2 number)\nstore s row 3 number\nfunction f(worth p number)\nbody f\n"
        self.statement("  call v", 8, "", ahead)
        ahead = "unit u size 10\nuse v.g(place row 2 number)\nfunction f(place q truth)\nbody f\n"
        self.statement("  call f(q)", None, "", ahead)

    def test_a_unit_and_a_function_with_one_name(self):
        ahead = "unit u size 10\nuse v.f() number\nfunction v()\nbody v\n  local x number\n"
        self.statement("  call v()", None, "", ahead)
        self.statement("  call v.f()", None, "", ahead)
        self.statement("  x = call v.f()", None, "", ahead)
        self.statement("  x = call v()", 13, "", ahead)

    def test_ports_and_fails(self):
        for port in ("6", "05", "x", "-"):
            self.statement(f"  show {port} 1", 8)
        self.statement("  show 1", 9)
        self.statement("  show 1 t", 10)
        for n in ("10", "00", "x"):
            self.statement(f"  fail {n}", 8)
        self.statement("  fail", 7)
        self.statement("  ask t", 7)
        self.statement("  ask y[0][0]", 7)
        self.statement("  ask s[0].b", 12)
        self.statement("  ask 1", 7)

    def test_asks_without_a_number_in_reach(self):
        ahead = "unit u size 10\nfunction f()\nbody f\n  local t row 2 truth\n"
        self.statement("  ask", 3, "", ahead)
        self.statement("  t[1] = yes", None, "", ahead)

    def test_give(self):
        ahead = "unit u size 10\nfunction f() number\nbody f\n"
        self.statement("  give 1", None, "", ahead)
        self.statement("  give", 7, "", ahead)
        self.statement("  give yes", 8, "", ahead)
        self.statement("  give 1", 8)
        self.statement("  give yes", 8)

    def test_break_and_again(self):
        for word in ("break", "again"):
            self.statement(f"  {word}", 3)
            self.statement(f"  while t\n    {word}", None)
            text = HEADS + f"  while t\n    if t\n      {word}\n  {word}"
            self.is_wrong(unit_of, text, 15, 3)
            self.is_wrong(unit_of, HEADS + f"  if t\n    {word}", 13, 5)

    def test_lines(self):
        self.is_right(unit_of, HEADS + "  if t\n  else\n    fail 1\nbody f\nbody h")
        self.is_right(unit_of, HEADS + "  if t\n    if t\n  else\n    fail 1\nbody f\nbody h")
        self.is_right(unit_of, HEADS + "  if t\n    if t\n    else\n      fail 1\n  else\n    fail 1\nbody f\nbody h")
        self.is_wrong(unit_of, HEADS + "  else\n", 12, 3)
        self.is_wrong(unit_of, HEADS + "  if t\n  else\nbody f", 14, 1)
        self.is_wrong(unit_of, HEADS + "  if t\n  else\n  fail 1", 14, 3)
        self.is_wrong(unit_of, HEADS + "  if t\n  else\n    fail 1\n  else", 15, 3)
        self.is_wrong(unit_of, HEADS + "  if t\n  fail 1\n  else", 14, 3)
        self.is_wrong(unit_of, HEADS + "  while t\n  else", 13, 3)
        self.is_wrong(unit_of, HEADS + "  if t\n    else", 13, 5)
        self.is_wrong(unit_of, HEADS + "  if t\n  else fail 1", 13, 8)
        self.is_wrong(unit_of, HEADS + "  if t fail 1", 12, 8)
        self.is_wrong(unit_of, HEADS + "  if t\n  else\n", 15, 1)

    def test_indents(self):
        for blanks in (0, 1, 3, 4, 5, 6):
            self.is_wrong(unit_of, HEADS + " " * blanks + "fail 1", 12, blanks + 1)
        for blanks in (0, 1, 3, 5, 6, 8):
            self.is_wrong(unit_of, HEADS + "  while t\n" + " " * blanks + "fail 1", 13, blanks + 1)
        for blanks in (2, 4, 6):
            self.is_right(unit_of, HEADS + "  if t\n    if t\n" + " " * blanks + "fail 1\nbody f\nbody h")
        self.is_wrong(unit_of, HEADS + "  if t\n    fail 1\n      fail 1", 14, 7)
        self.is_wrong(unit_of, HEADS + "\tfail 1", 12, 1)

    def nested(self, depth, last):
        lines = ["  " * at + "while yes" for at in range(1, depth)] + ["  " * depth + last]
        return HEADS + "\n".join(lines) + "\nbody f\nbody h", 11 + depth, 2 * depth

    def deep(self, depth, last, column):
        text, line, blanks = self.nested(depth, last)
        if column is None:
            self.is_right(unit_of, text)
        else:
            self.is_wrong(unit_of, text, line, blanks + column)

    def test_depths_of_statements(self):
        for word in ("fail 1", "break", "again", "give", "call main()"):
            self.deep(10, word, None)
        for word in ("if t", "while t", "show 1 1", "ask x", "x = 1", "t = yes"):
            self.deep(10, word, 1)
        self.deep(10, "call h(yes)", 6)
        for word in ("if yes", "while yes", "show 1 1", "ask x", "x = 1", "x = call v.f(x)"):
            self.deep(9, word, None if "call" not in word else 5)
        self.deep(9, "t = call v.f(1)", None)
        self.deep(9, "call h(yes)", None)
        self.deep(9, "call v.h(s[0])", 6 + 2)
        self.deep(8, "call v.h(s[0])", None)

    def test_depths_of_expressions(self):
        self.deep(9, "if t", 4)
        self.deep(9, "x = x", 5)
        self.deep(8, "x = x", None)
        self.deep(9, "show 1 (1 + 1)", 8)
        self.deep(8, "show 1 (1 + 1)", None)
        self.deep(8, "show 1 (1 + x)", 13)
        self.deep(8, "show 1 (x + 1)", 9)
        self.deep(7, "show 1 (x + x)", None)
        self.deep(8, "if (not yes)", None)
        self.deep(8, "if (not t)", 9)
        self.deep(8, "if (not (not yes))", 9)

    def test_depths_of_places(self):
        self.deep(9, "s[0].a = 1", 1)
        self.deep(8, "s[0].a = 1", 1)
        self.deep(7, "s[0].a = 1", None)
        self.deep(7, "s[x].a = 1", 3)
        self.deep(6, "s[x].a = 1", None)
        self.deep(6, "s[(1 + 1)].a = 1", None)
        self.deep(6, "s[(1 + (1 + 1))].a = 1", 8)
        self.deep(7, "y[0][0] = yes", None)
        self.deep(7, "y[0][(1 + 1)] = yes", None)
        self.deep(7, "y[0][x] = yes", None)
        self.deep(7, "y[0][(1 + x)] = yes", 11)
        self.deep(7, "y[x][0] = yes", 3)
        self.deep(6, "x = s[0].a", None)
        self.deep(7, "x = s[0].a", 5)

    def test_gives_with_a_result(self):
        ahead = "unit u size 10\nfunction f() number\nbody f\n"
        for depth, column in ((10, 1), (9, None), (8, None)):
            lines = ["  " * at + "while yes" for at in range(1, depth)] + ["  " * depth + "give 1"]
            told = None if column is None else (3 + depth, 2 * depth + column)
            self.assertEqual(wrong_spot(unit_of, ahead + "\n".join(lines)), told)

    def test_parts_of_parts_that_lie_too_deep(self):
        ahead = "unit u size 10\nstore r record(a number, b record(c number, d record(e number)))\nfunction f()\nbody f\n"
        right = {8: ("ask r.a", "r.a = 1", "show 1 1"), 7: ("ask r.b.c", "r.a = r.a"), 6: ("ask r.b.d.e", "r.a = r.b.c"),
                 5: ("r.b.d.e = r.b.d.e",)}
        wrong = {8: (("ask r.b.c", 7), ("r.b.c = 1", 3), ("r.a = r.a", 7)), 7: (("ask r.b.d.e", 9), ("r.a = r.b.c", 9)),
                 6: (("r.a = r.b.d.e", 11),)}
        for depth in (5, 6, 7, 8):
            nest = "".join("  " * at + "while yes\n" for at in range(1, depth)) + "  " * depth
            for line in right[depth]:
                self.is_right(unit_of, ahead + nest + line)
            for line, column in wrong.get(depth, ()):
                self.is_wrong(unit_of, ahead + nest + line, 4 + depth, 2 * depth + column)

    def test_parts_that_lie_too_deep_behind_an_index(self):
        ahead = "unit u size 10\nstore g row 2 record(a number, b record(c truth, d number))\nfunction f()\nbody f\n"
        nest = "".join("  " * at + "while yes\n" for at in range(1, 5))
        text = ahead + nest + " " * 10 + "ask g[{}].{}"
        self.is_right(unit_of, text.format("((1 + 1) + 1)", "a"))
        self.is_wrong(unit_of, text.format("((1 + 1) + 1)", "b.d"), 9, 11 + len("ask g[((1 + 1) + 1)]."))
        self.is_right(unit_of, text.format("(1 + 1)", "b.d"))
        self.is_wrong(unit_of, text.format("(((1 + 1) + 1) + 1)", "a"), 9, 11 + len("ask g[(("))


class ProgramsTest(Asked):

    MAIN = "unit u size 10\n{}function main()\nbody main\n"

    def test_main(self):
        self.is_wrong(program_of, "unit u size 10\nfunction f()\nbody f", 3, 1)
        self.is_right(unit_of, "unit u size 10\nfunction f()\nbody f")
        self.is_wrong(program_of, "unit u size 10\nfunction main(worth p number)", 2, 15)
        self.is_wrong(program_of, "unit u size 10\nfunction main() number", 2, 17)
        functions = "".join(f"function f{at}()\n" for at in range(5))
        self.is_wrong(program_of, f"unit u size 10\n{functions}function g()", 7, 10)
        self.is_wrong(program_of, f"unit u size 10\n{functions}function main(){functions}", 7, 16)
        text = self.MAIN.format("") + "unit v size 10\nfunction main(worth p number) truth\nbody main"
        self.is_right(program_of, text)

    def test_further_units(self):
        ahead = self.MAIN.format("")
        self.is_wrong(program_of, ahead + "unit u size 10", 4, 6)
        self.is_wrong(program_of, ahead + "unit v size 11", 4, 13)
        self.is_wrong(program_of, ahead + "unit v size 10\n", 6, 1)
        self.is_wrong(program_of, ahead + " unit v size 10", 4, 2)
        more = "".join(f"unit v{at} size 10\nfunction f()\nbody f\n" for at in range(5))
        self.is_right(program_of, ahead + more)
        self.is_wrong(program_of, ahead + more + "unit w size 10", 19, 1)

    def test_owed_units(self):
        ahead = self.MAIN.format("use v.f(worth number) truth\nuse v.g()\nuse w.f(place row 2 number)\n")
        self.is_wrong(program_of, ahead, 8, 1)
        self.is_wrong(program_of, ahead + "unit v size 10\nbody g", 8, 1)
        v = "unit v size 10\nfunction f(worth p number) truth\nfunction g()\nbody f\nbody g\n"
        w = "unit w size 10\nfunction f(place p row 2 number)\nbody f\n"
        self.is_right(program_of, ahead + v + w)
        self.is_right(program_of, ahead + w + v)
        self.is_right(program_of, ahead + w + "unit x size 10\nfunction x()\nbody x\n" + v)
        self.is_wrong(program_of, ahead + v, 13, 1)
        self.is_wrong(program_of, ahead + v.replace("function g()\n", ""), 9, 1)
        self.is_wrong(program_of, ahead + v.replace("worth", "place"), 8, 12)
        self.is_wrong(program_of, ahead + v.replace(" number", " truth"), 8, 20)
        self.is_wrong(program_of, ahead + v.replace(") truth", ")"), 8, 27)
        self.is_wrong(program_of, ahead + v.replace(") truth", ") number"), 8, 28)
        self.is_wrong(program_of, ahead + v.replace(" number)", " number, worth q number)"), 8, 26)
        self.is_wrong(program_of, ahead + v.replace("g()", "g() truth"), 9, 14)
        self.is_wrong(program_of, ahead + w.replace("row 2", "row 3"), 8, 24)
        self.is_wrong(program_of, ahead + w.replace("row 2 number", "record"), 8, 20)
        self.is_wrong(program_of, ahead + w.replace("(place p row 2 number)", "()"), 8, 12)

    def test_functions_must_leave_room_for_owed_ones(self):
        uses = "".join(f"use v.f{at}()\n" for at in range(5))
        ahead = self.MAIN.format(uses) + "unit v size 10\n"
        line = ahead.count("\n") + 1
        self.is_wrong(program_of, ahead + "function g()\nfunction h()", line + 1, 10)
        self.is_wrong(program_of, ahead + "function f1()\nfunction h()\nfunction i()", line + 2, 10)

    def test_uses_keep_what_was_told(self):
        f = "function f(worth p number) truth\n"
        ahead = f"unit u size 10\nfunction main()\n{f}body main\nbody f\nunit v size 10\n"
        behind = "\nfunction g()\nbody g"
        self.is_right(program_of, ahead + "use u.f(worth number) truth" + behind)
        self.is_right(program_of, ahead + "use u.main()\nuse u.f(worth number) truth" + behind)
        self.is_wrong(program_of, ahead + "use u.g()", 7, 7)
        self.is_wrong(program_of, ahead + "use u.f()", 7, 9)
        self.is_wrong(program_of, ahead + "use u.f(place number)", 7, 9)
        self.is_wrong(program_of, ahead + "use u.f(worth truth)", 7, 15)
        self.is_wrong(program_of, ahead + "use u.f(worth number)", 7, 22)
        self.is_wrong(program_of, ahead + "use u.f(worth number) number", 7, 23)
        self.is_wrong(program_of, ahead + "use u.f(worth number, worth number)", 7, 21)
        told = ahead + "use u.main()\nuse u.f(worth number) truth\n"
        self.is_wrong(program_of, told + "use u.f(", 9, 5)
        self.is_wrong(program_of, told + "use v.f(", 9, 5)

    def test_uses_of_owed_units_agree(self):
        ahead = self.MAIN.format("use w.f(place row 2 truth) number\n") + "unit v size 10\n"
        behind = "\nfunction g()\nbody g\nunit w size 10\nfunction f(place a row 2 truth) number\nbody f"
        self.is_right(program_of, ahead + "use w.f(place row 2 truth) number" + behind)
        self.is_wrong(program_of, ahead + "use w.f(place row 3 truth) number" + behind, 6, 19)
        self.is_wrong(program_of, ahead + "use w.f(place row 2 truth)" + behind, 6, 27)

    def test_an_owed_unit_has_at_most_six_functions(self):
        uses = "".join(f"use w.f{at}()\n" for at in range(6))
        ahead = self.MAIN.format(uses) + "unit v size 10\n"
        line = ahead.count("\n") + 1
        self.is_wrong(program_of, ahead + "use w.g()", line, 7)
        # no unit is left but w, whose functions are all told
        more = "".join(f"unit x{at} size 10\nfunction f()\nbody f\n" for at in range(3))
        text = self.MAIN.format(uses) + more + "unit v size 10\n"
        line = text.count("\n") + 1
        self.is_wrong(program_of, text + "use w.g()", line, 7)
        self.is_right(program_of, completed(text + "use w.f5()"))

    def test_a_seventh_unit(self):
        uses = "".join(f"use v{at}.f()\n" for at in range(5))
        ahead = self.MAIN.format(uses)
        line = ahead.count("\n") + 1
        self.is_wrong(program_of, ahead.replace("use v4.f()\n", "use v4.f()\nuse w.f()\n"), 7, 5)
        self.is_wrong(program_of, ahead + "unit w size 10", line, 6)
        self.is_wrong(program_of, ahead + "unit v0 size 10\nuse w.f()", line + 1, 5)
        self.is_wrong(program_of, ahead + "unit v0 size 10\nuse v0.f()", line + 1, 5)
        units = "".join(f"unit v{at} size 10\nfunction f()\nbody f\n" for at in range(5))
        self.is_right(program_of, ahead + units)

    def test_no_function_is_left_to_use(self):
        units = "".join(f"unit v{at} size 10\nfunction f()\nbody f\n" for at in range(4))
        text = self.MAIN.format("") + units + "unit w size 10\nuse u.main()\n"
        uses = "".join(f"use v{at}.f()\n" for at in range(4))
        line = text.count("\n") + 1
        self.is_wrong(program_of, text + "use u.main()", line, 5)
        self.is_wrong(program_of, text + uses + "use v0.f()", line + 4, 1)
        self.is_right(program_of, text + uses + "function f()\nbody f")

    def test_the_end(self):
        self.is_wrong(program_of, "", 2, 1)
        self.is_wrong(program_of, self.MAIN.format("") + "fail", 4, 1)
        self.is_right(program_of, self.MAIN.format(""))


class TooLargeTest(Asked):

    def text(self, many):
        return "unit u size 10\nfunction main()\nbody main\n" + "  fail 1\n" * many

    def test_many_nodes(self):
        for read in (unit_of, program_of):
            self.assertTrue(read(self.text(150)))
            self.assertRaises(TooLarge, read, self.text(151))
            self.assertRaises(TooLarge, read, self.text(1000))

    def test_a_wrong_token_goes_first(self):
        self.is_wrong(unit_of, self.text(200) + "  fail", 204, 7)
        self.is_wrong(program_of, self.text(200) + "  fail 1 1", 204, 10)

    def test_each_body_counts_by_itself(self):
        text = "unit u size 10\nfunction main()\nfunction f()\nbody main\n" + "  fail 1\n" * 150 + "body f\n"
        self.assertTrue(unit_of(text + "  fail 1\n" * 150))
        self.assertRaises(TooLarge, unit_of, text + "  fail 1\n" * 151)

    def test_completed_ones(self):
        for complete in (completed, completed_unit):
            told = complete(self.text(151) + "  fai")
            right = token_pairs(self.text(151))[:-1]
            self.assertEqual(token_pairs(told)[:len(right)], right)
            self.assertRaises(TooLarge, unit_of, told)


class CutTest(Asked):

    def right_tokens(self, read, text):
        """How many tokens of a text are right."""
        spot = wrong_spot(read, text)
        spots = [(line, column) for line, column, _, _ in tokens_of(text)]
        return len(spots) if spot is None else spots.index(spot)

    def cuts(self, text):
        """All beginnings of a text that end behind a token, with the number of these."""
        lines = text.split("\n")
        for many, (line, column, _, token) in enumerate(tokens_of(text)):
            if token not in ("\n", ""):
                last = lines[line - 1][:column - 1 + len(token)]
                yield many + 1, "\n".join(lines[:line - 1] + [last])

    def ask_completed(self, complete, read, text):
        """Completes a text; its right tokens are those of the answer, which is read or too large."""
        told = complete(text)
        right = token_pairs(text)[:self.right_tokens(read, text)]
        self.assertEqual(token_pairs(told)[:len(right)], right, text)
        self.assertIsNone(self.spot_or_large(read, told))
        return len(right)

    def spot_or_large(self, read, text):
        try:
            return wrong_spot(read, text)
        except TooLarge:
            return None

    def test_beginnings(self):
        for many, beginning in self.cuts(EXAMPLE + "\n" + OTHER):
            self.assertGreaterEqual(self.ask_completed(completed, program_of, beginning), many)
        for seed in range(6):
            text = program_text(make_program(dice_of(seed), 60, most_units=4))
            for many, beginning in list(self.cuts(text))[seed::7]:
                self.assertGreaterEqual(self.ask_completed(completed, program_of, beginning), many)

    def test_beginnings_of_units(self):
        for seed in range(6):
            text = unit_text(make_program(dice_of(seed + 50), 60, most_units=2)[-1])
            for many, beginning in list(self.cuts(text))[seed::5]:
                self.assertGreaterEqual(self.ask_completed(completed_unit, unit_of, beginning), many)

    def test_whole_texts_stay(self):
        for seed in range(20):
            program = make_program(dice_of(seed), 60)
            self.assertEqual(program_of(completed(program_text(program))), program)
            self.assertEqual(unit_of(completed_unit(unit_text(program[0]))), program[0])

    def test_any_token_behind_any_beginning(self):
        words = (
            "again and ask body break call else fail function give if local no not number or over place record rest row "
            "show size store truth unit use while worth yes u v w f g s t i j p 0 1 3 9 10 64 ( ) [ ] . , = + <").split()
        for seed in range(40):
            dice = dice_of(seed)
            if seed % 2:
                text = program_text((make_deep_unit(dice, 120),))
            else:
                text = program_text(make_program(dice, 60, most_units=3))
            cuts = list(self.cuts(text))
            for _ in range(12):
                _, beginning = dice.choice(cuts)
                blanks = "" if dice.random() < 0.8 else "\n" + "  " * dice.randrange(6)
                self.ask_completed(completed, program_of, beginning + blanks + " " + dice.choice(words))

    def test_texts_of_anything(self):
        for text in ("", "\n", "#", "x", "unit", "unit u size 10\nfunction main()\nbody main\n  x", " unit", "\t", "()"):
            self.assertTrue(program_of(completed(text)))
            self.assertTrue(unit_of(completed_unit(text)))
