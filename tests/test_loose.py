"""[30] to [34]: the form of rows, and the sorts of temps."""

import unittest

from labelclocks.loose import is_loose
from tests.checks import ODD_VALUES
from tests.lower import lower
from tests.makers import dice_of, make_program

STATION = (0, 0)
USES = (("v", "f", (("worth", "number"), ("place", ("row", 2, "truth"))), "truth"), ("w", "g", (), None))
PARAMS = (("worth", "number"), ("place", ("row", 3, "number")))


def rows_of(steps=(), ending=("give", None), result=None, params=(), slots=(2, 3), stores=(("s", 4),), uses=USES,
            name="u", size=10, label=(0, 0, ()), blocks=None, more=()):
    """Rows with these parts; the code h has the params (worth, place) and a result, k has none of both."""
    if blocks is None:
        blocks = ((label, tuple(steps), ending), ((0, 1, ()), (), ("fail", 1, STATION)))
    codes = (
        ("f", params, result, slots, blocks),
        ("h", PARAMS, "number", (), (((1, 0, ()), (), ("give", 0)),)),
        ("k", (), None, (), (((2, 0, ()), (), ("give", None)),)))
    return ("rows", name, size, uses, stores, codes + more)


class LooseTest(unittest.TestCase):

    def right(self, *steps, **more):
        self.assertIs(is_loose(rows_of(steps, **more)), True, steps)

    def wrong(self, *steps, **more):
        self.assertIs(is_loose(rows_of(steps, **more)), False, steps)

    def parts(self, name, right, wrong):
        """Asks of one part of the rows."""
        for value in right:
            self.right(**{name: value})
        for value in wrong:
            self.wrong(**{name: value})


class HeadsTest(LooseTest):

    def test_any_value(self):
        for value in ODD_VALUES + (list(rows_of()), rows_of()[:5], rows_of() + (1,), ("row",) + rows_of()[1:]):
            self.assertIs(is_loose(value), False)
        self.assertIs(is_loose(value=rows_of()), True)

    def test_name_size_and_uses(self):
        self.parts("name", ("u", "a1"), ("if", "", None, 1, ["u"], "abcdefghi"))
        self.parts("size", (2, 10000), (1, 10001, True, None, "10"))
        use = ("v", "f", (), None)
        many = tuple(("v", f"f{at}", (), None) for at in range(7))
        self.parts("uses", ((), (use,), many[:6]), (
            many, [use], (use, use), (("u", "f", (), None),), (("v", "if", (), None),), (("v", "f", (), "row"),),
            (("v", "f", (("worth", ("row", 1, "truth")),), None),), (use[:3],), None))

    def test_stores(self):
        many = tuple((f"s{at}", 1) for at in range(7))
        self.parts("stores", ((), (("s", 1),), (("s", 400),), many[:6]), (
            many, [("s", 1)], (["s", 1],), (("s", 0),), (("s", 401),), (("s", True),), (("if", 1),), (("s",),), None,
            (("s", 1), ("s", 2)), (("s", 1, 1),)))

    def test_slots(self):
        self.parts("slots", ((), (1,), (400,), (1,) * 64), (
            (1,) * 65, [1], (0,), (401,), (True,), (None,), None, 1))

    def test_params_and_results(self):
        worth = ("worth", "number")
        self.parts("params", ((), (worth,), (worth,) * 4, (("place", ("row", 2, "truth")),), (("place", "truth"),)), (
            (worth,) * 5, [worth], (list(worth),), (("worth", ("row", 2, "truth")),), (("place", "word"),), (("by", "number"),),
            (("worth",),), (("p", "worth", "number"),), None))
        self.right(result="number", ending=("give", 0))
        self.right(result="truth", ending=("give", 0))
        for result in ("row", True, 0, ("row", 1, "number")):
            self.wrong(result=result, ending=("give", 0))

    def test_codes(self):
        code = ("f1", (), None, (), (((0, 0, ()), (), ("give", None)),))
        rows = rows_of()
        for many in range(8):
            codes = tuple((f"f{at}",) + code[1:] for at in range(many))
            self.assertIs(is_loose(rows[:5] + (codes,)), 1 <= many <= 6)
        for codes in ([code], (list(code),), (code[:4],), (code + (1,),), (code, code), (("if",) + code[1:],), None):
            self.assertIs(is_loose(rows[:5] + (codes,)), False)

    def test_blocks(self):
        block = ((0, 0, ()), (), ("give", None))
        self.parts("blocks", ((block,), (block,) * 400), (
            (), (block,) * 401, [block], (list(block),), (block[:2],), (block + (1,),),
            ((None, [], ("give", None)),), ((None, (), ["give", None]),), ((None, None, ("give", None)),)))
        self.parts("label", (None, (5, 999, ()), (3, 2, (("at", 0, 0),))), (
            (), (6, 0, ()), (0, 1000, ()), (0, 0), (0, 0, None), "door", 0, (0, 0, (("in", 0, 0),)), [0, 0, ()]))

    def test_many_steps(self):
        step = ("const", 1, 1)
        block = ((0, 0, ()), (step,) * 4000, ("give", None))
        self.right(blocks=(block, block))
        self.wrong(blocks=(block, block, ((0, 0, ()), (step,), ("give", None))))
        self.right(*[step] * 8000)
        self.wrong(*[step] * 8001)


class StepsTest(LooseTest):

    def test_forms(self):
        for step in (
                None, (), "const", ["const", 1, 1], ("const", 1), ("const", 1, 1, 1), ("jump", 0), (["const"], 1, 1),
                ("give", 0), (1, 1, 1), ("load", 1), ("clear",), ("plus", 1, 2), ("plus", 1, 2, 3, 4)):
            self.wrong(step)

    def test_temps(self):
        for t in (0, 9999):
            self.right(("const", t, 1))
            self.right(("plus", t, t, t))
        for t in (-1, 10000, True, None, "1", (1,), 10 ** 99):
            self.wrong(("const", t, 1))
            self.wrong(("copy", 1, t))
            self.wrong(("not", t, 1))
            self.wrong(("plus", 1, t, 1))
            self.wrong(("less", 1, 1, t))
            self.wrong(("show", 0, t, STATION))
            self.wrong(("ask", t, STATION))
            self.wrong(("save", 1, t))

    def test_numbers(self):
        for n in (0, 9):
            self.right(("const", 1, n))
        for n in (-1, 10, True, None, "1"):
            self.wrong(("const", 1, n))

    def test_the_nine_words(self):
        for word in ("plus", "minus", "times", "over", "rest", "less", "same", "and", "or"):
            self.right((word, 1, 2, 3))
        self.wrong(("xor", 1, 2, 3))

    def test_areas(self):
        for area in (("slot", 0), ("slot", 1), ("store", "s")):
            self.right(("base", 1, area))
        for area in (
                ("slot", 2), ("slot", -1), ("slot", True), ("slot", None), ("store", "x"), ("store", None), ("store", ["s"]),
                ("store", 0), ("slot",), ("slot", 0, 0), ["slot", 0], None, "s", ("area", 0), (None, 0), ("slot", "s")):
            self.wrong(("base", 1, area))
        for slot in (0, 1):
            self.right(("clear", slot))
        for slot in (2, -1, True, None, ("slot", 0)):
            self.wrong(("clear", slot))
        self.wrong(("clear", 0), slots=())

    def test_offsets_and_words(self):
        for off in (0, 400):
            self.right(("offset", 1, 2, off))
            self.right(("index", 1, 2, 3, 1, off))
        for off in (-1, 401, True, None):
            self.wrong(("offset", 1, 2, off))
            self.wrong(("index", 1, 2, 3, 1, off))
        for words in (1, 400):
            self.right(("index", 1, 2, 3, words, 0))
        for words in (0, 401, True, None):
            self.wrong(("index", 1, 2, 3, words, 0))

    def test_checks_and_stations(self):
        for many in (1, 64):
            self.right(("check", 1, many, STATION))
        for many in (0, 65, True, None):
            self.wrong(("check", 1, many, STATION))
        for station in ((5, 999),):
            self.right(("check", 1, 1, station), ("divisor", 1, station), ("show", 0, 1, station), ("ask", 1, station))
        for station in ((6, 0), (0, 1000), [0, 0], (0,), None, 0, (True, 0)):
            self.wrong(("check", 1, 1, station))
            self.wrong(("divisor", 1, station))
            self.wrong(("show", 0, 1, station))
            self.wrong(("ask", 1, station))
            self.wrong(ending=("fail", 1, station))
        for port in (0, 5):
            self.right(("show", port, 1, STATION))
        for port in (-1, 6, True, None):
            self.wrong(("show", port, 1, STATION))


class EndingsTest(LooseTest):

    def ends(self, right, wrong, **more):
        for ending in right:
            self.right(ending=ending, **more)
        for ending in wrong:
            self.wrong(ending=ending, **more)

    def test_forms(self):
        self.ends((), (None, (), "give", ["give", None], ("give",), ("stop", 0), (1, 2), (["give"], None), ("const", 1, 1)))

    def test_jumps_and_tests(self):
        self.ends((("jump", 0), ("jump", 1)), (("jump", 2), ("jump", -1), ("jump", True), ("jump", None), ("jump", 0, 0)))
        self.ends((("test", 7, 0, 1), ("test", 7, 1, 1)), (
            ("test", 7, 0, 2), ("test", 7, 2, 0), ("test", 7, True, 0), ("test", 7, 0, None), ("test", None, 0, 1),
            ("test", 10000, 0, 1), ("test", 7, 0), ("test", 7, 0, 1, 1)))

    def test_gives(self):
        self.ends((("give", None),), (("give", 0), ("give", "x"), ("give", None, None)))
        self.ends((("give", 0), ("give", 9999)), (("give", None), ("give", True), ("give", 10000)), result="truth")

    def test_fails(self):
        self.ends((("fail", 0, STATION), ("fail", 9, STATION)), (
            ("fail", 10, STATION), ("fail", -1, STATION), ("fail", True, STATION), ("fail", None, STATION), ("fail", 1)))

    def test_calls(self):
        right = (
            ("call", 1, ("own", 1), (2, 3), 1), ("call", None, ("own", 1), (2, 3), 1), ("call", None, ("own", 2), (), 1),
            ("call", 1, ("use", 0), (2, 3), 1), ("call", None, ("use", 1), (), 1), ("call", None, ("own", 0), (), 0))
        wrong = (
            ("call", 1, ("own", 2), (), 1), ("call", 1, ("use", 1), (), 1), ("call", 1, ("own", 3), (), 1),
            ("call", 1, ("use", 2), (), 1), ("call", 1, ("own", -1), (), 1), ("call", 1, ("own", True), (2, 3), 1),
            ("call", 1, ("own", 1), (2,), 1), ("call", 1, ("own", 1), (2, 3, 4), 1), ("call", 1, ("own", 1), [2, 3], 1),
            ("call", 1, ("own", 1), (2, None), 1), ("call", 1, ("own", 1), (2, 10000), 1), ("call", 1, ("own", 1), (2, 3), 2),
            ("call", 1, ("own", 1), (2, 3), None), ("call", 1, ("own", 1), (2, 3)), ("call", 1, ["own", 1], (2, 3), 1),
            ("call", 1, ("by", 1), (2, 3), 1), ("call", 1, None, (2, 3), 1), ("call", 1, ("own",), (2, 3), 1),
            ("call", 10000, ("own", 1), (2, 3), 1), ("call", True, ("own", 1), (2, 3), 1), ("call", 1, ("own", None), (), 1),
            ("call", None, ("own", 1), None, 1), ("call", None, ("own", -1), (), 1), ("call", None, ("use", -1), (), 1),
            ("call", None, ("by", 1), (), 1))
        self.ends(right, wrong)

    def test_last_calls(self):
        self.ends((("last", ("own", 2), ()), ("last", ("use", 1), ()), ("last", ("own", 0), ())), (
            ("last", ("own", 1), (2, 3)), ("last", ("use", 0), (2, 3)), ("last", ("own", 3), ()), ("last", ("own", 2), (1,)),
            ("last", ("own", 2), []), ("last", ("own", 2)), ("last", ("own", 2), (), 1), ("last", None, ()), ("last", ("own", -1), ())))
        self.ends((("last", ("own", 1), (2, 3)),), (
            ("last", ("own", 2), ()), ("last", ("use", 0), (2, 3))), result="number")
        self.ends((("last", ("use", 0), (2, 3)),), (("last", ("own", 1), (2, 3)),), result="truth")


class SortsTest(LooseTest):

    ADDRESS = ("base", 1, ("slot", 0))

    def test_what_gives_worths(self):
        for step in (
                ("const", 1, 1), ("not", 1, 2), ("plus", 1, 2, 3), ("over", 1, 2, 3), ("same", 1, 2, 3), ("or", 1, 2, 3),
                ("load", 1, 2), ("ask", 1, STATION)):
            self.right(step, ("show", 0, 1, STATION))
            self.wrong(step, ("load", 9, 1))
            self.wrong(step, self.ADDRESS)
        self.wrong(("load", 9, 1), ending=("call", 1, ("own", 1), (2, 3), 1))

    def test_what_gives_addresses(self):
        for step in (self.ADDRESS, ("base", 1, ("store", "s")), ("offset", 1, 2, 1), ("index", 1, 2, 3, 1, 1)):
            self.right(step, ("load", 9, 1))
            self.right(step, ("save", 1, 9))
            self.right(step, ("offset", 8, 1, 1))
            self.wrong(step, ("show", 0, 1, STATION))
            self.wrong(step, ("const", 1, 1))

    def test_what_reads_worths(self):
        for step in (
                ("not", 9, 1), ("plus", 9, 1, 8), ("times", 9, 8, 1), ("less", 9, 1, 1), ("index", 9, 8, 1, 1, 1),
                ("save", 9, 1), ("check", 1, 1, STATION), ("divisor", 1, STATION), ("show", 0, 1, STATION)):
            self.right(("const", 1, 1), step)
            self.wrong(self.ADDRESS, step)
        self.wrong(self.ADDRESS, ending=("test", 1, 0, 1))
        self.wrong(self.ADDRESS, ending=("give", 1), result="number")
        self.right(("const", 1, 1), ending=("give", 1), result="number")

    def test_what_reads_addresses(self):
        for step in (("offset", 9, 1, 1), ("index", 9, 1, 8, 1, 1), ("load", 9, 1), ("save", 1, 9)):
            self.right(self.ADDRESS, step)
            self.wrong(("const", 1, 1), step)

    def test_copies(self):
        self.right(self.ADDRESS, ("copy", 2, 1), ("load", 3, 2))
        self.right(("const", 1, 1), ("copy", 2, 1), ("show", 0, 2, STATION))
        self.wrong(self.ADDRESS, ("copy", 2, 1), ("show", 0, 2, STATION))
        self.wrong(("const", 1, 1), ("copy", 2, 1), ("load", 3, 2))
        chain = [("copy", at + 1, at) for at in range(1, 60)]
        self.right(self.ADDRESS, *chain, ("load", 99, 60))
        self.wrong(self.ADDRESS, *chain, ("show", 0, 60, STATION))
        self.wrong(("show", 0, 60, STATION), *reversed(chain), self.ADDRESS)
        # a temp that only copies tell of may be either
        self.right(("copy", 2, 1), ("copy", 3, 2))

    def test_one_sort_in_the_whole_code(self):
        self.wrong(self.ADDRESS, ("load", 2, 1), ("const", 1, 1), ("show", 0, 1, STATION))
        blocks = (
            ((0, 0, ()), (self.ADDRESS,), ("jump", 1)), (None, (("const", 1, 1),), ("give", None)))
        self.wrong(blocks=blocks)

    def test_each_code_has_its_own_temps(self):
        more = (("m", (), None, (), (((0, 2, ()), (("const", 1, 1),), ("give", None)),)),)
        self.right(self.ADDRESS, more=more)

    def test_params(self):
        params = (("worth", "truth"), ("place", "number"))
        self.right(("show", 0, 0, STATION), ("load", 9, 1), params=params)
        self.wrong(("load", 9, 0), params=params)
        self.wrong(("show", 0, 1, STATION), params=params)
        self.right(("base", 1, ("slot", 0)), params=params)
        self.wrong(("const", 1, 1), params=params)

    def test_args(self):
        worth, address = ("const", 2, 1), ("base", 3, ("slot", 0))
        for ending in (("call", 1, ("own", 1), (2, 3), 1), ("call", 1, ("use", 0), (2, 3), 1)):
            self.right(worth, address, ending=ending)
            self.wrong(("base", 2, ("slot", 0)), ending=ending)
            self.wrong(("const", 3, 1), ending=ending)
            self.wrong(("base", 1, ("slot", 0)), ending=ending)
        ending = ("last", ("own", 1), (2, 3))
        self.right(worth, address, ending=ending, result="number")
        self.wrong(("base", 2, ("slot", 0)), ending=ending, result="number")
        self.wrong(("const", 3, 1), ending=ending, result="number")
        self.wrong(ending=("call", 1, ("own", 1), (2, 2), 1))

    def test_rows_of_made_programs(self):
        for seed in range(40):
            for unit in make_program(dice_of(seed), 100):
                self.assertIs(is_loose(lower(unit)), True)
