"""[17], [18], [19]: units, programs, labels and stations."""

import unittest

from labelclocks.errors import BadFunction, BadUnit
from labelclocks.units import is_program, is_unit, labels_of, stations_of
from tests.checks import ODD_VALUES
from tests.makers import dice_of, make_deep_unit, make_program

REC = ("record", (("a", "number"), ("b", "truth")))
REC2 = ("record", (("a", "number"), ("c", "truth")))
ROW = ("row", 3, REC)
N = ("number", 1)
YES = ("truth", "yes")
X = ("name", "x")
B = ("name", "b")
STORES = (("s", ROW), ("q", "number"), ("rec", REC), ("grid", ("row", 2, ("row", 2, "number"))))
USES = (
    ("v", "f", (), None), ("v", "g", (("worth", "number"), ("place", REC)), "truth"), ("w", "f", (), "number"))
PARAMS = (("p", "worth", "number"), ("pl", "place", REC))
LOCALS = (("x", "number"), ("b", "truth"))


def unit_with(body=(), uses=USES, stores=STORES, params=(), result=None, told=LOCALS, size=10, name="u", more=()):
    others = (("f", PARAMS, "number", (), ()), ("h", (), None, (), ()))
    return (name, size, uses, stores, (("main", params, result, told, body),) + others + more)


def read(place):
    return ("read", place)


def is_body(*body, **more):
    return is_unit(unit_with(tuple(body), **more))


def is_expression(expression, kind):
    if kind == "number":
        return is_body(("show", 0, expression))
    return is_body(("while", expression, ()))


class HeadsTest(unittest.TestCase):

    def test_right_ones(self):
        self.assertTrue(is_unit(unit_with()))
        self.assertTrue(is_unit(("u", 2, (), (), (("f", (), None, (), ()),))))
        self.assertTrue(is_unit(("u", 10000, (), (), (("f", (), None, (), ()),))))

    def test_any_value(self):
        for value in ODD_VALUES + (list(unit_with()), unit_with()[:4], unit_with() + (1,)):
            self.assertIs(is_unit(value), False)

    def test_name_and_size(self):
        for name in ("if", "", None, 1, "U", "abcdefghi", ["u"]):
            self.assertFalse(is_unit(unit_with(name=name)))
        for size in (1, 0, -5, 10001, 10 ** 99, True, None, "10", (10,)):
            self.assertFalse(is_unit(unit_with(size=size)))

    def test_uses(self):
        for uses in (list(USES), None, (["v", "f", (), None],), (("v", "f", ()),), (("v", "f", (), None, 1),)):
            self.assertFalse(is_unit(unit_with(uses=uses)))
        many = tuple(("v", f"f{at}", (), None) for at in range(7))
        self.assertTrue(is_unit(unit_with(uses=many[:6])))
        self.assertFalse(is_unit(unit_with(uses=many)))
        wrong = (
            ("u", "f", (), None), ("if", "f", (), None), ("v", "if", (), None), (1, "f", (), None),
            ("v", None, (), None), ("v", "f", [], None), ("v", "f", (), "row"), ("v", "f", (), 0),
            ("v", "f", (), ("row", 1, "number")), ("v", "f", (["worth", "number"],), None),
            ("v", "f", (("worth", REC),), None), ("v", "f", (("by", "number"),), None),
            ("v", "f", (("place", ("row", 65, "number")),), None), ("v", "f", (("worth",),), None),
            ("v", "f", (("worth", "number"),) * 5, None), ("v", "f", ((["worth"], "number"),), None))
        for use in wrong:
            self.assertFalse(is_unit(unit_with(uses=(use,))), use)
        self.assertTrue(is_unit(unit_with(uses=(("v", "f", (("worth", "number"),) * 4, None),))))
        self.assertTrue(is_unit(unit_with(uses=(("v", "f", (("place", "number"),), None),))))
        self.assertTrue(is_unit(unit_with(uses=(("v", "f", (), None), ("w", "f", (), None), ("v", "g", (), None)))))
        self.assertFalse(is_unit(unit_with(uses=(("v", "f", (), None), ("v", "f", (), "number")))))

    def test_stores(self):
        many = tuple((f"s{at}", "number") for at in range(7))
        self.assertTrue(is_unit(unit_with(stores=many[:6])))
        self.assertFalse(is_unit(unit_with(stores=many)))
        wrong = (
            [("s", "number")], (["s", "number"],), (("s",),), (("if", "number"),), (("s", "row"),), None,
            (("s", "number", 1),), (("s", "number"), ("s", "truth")))
        for stores in wrong:
            self.assertFalse(is_unit(unit_with(stores=stores)), stores)

    def test_functions(self):
        plain = tuple((f"f{at}", (), None, (), ()) for at in range(7))
        for many in range(8):
            self.assertEqual(is_unit(("u", 10, (), (), plain[:many])), 1 <= many <= 6)
        wrong = (
            list(plain[0]), plain[0][:4], plain[0] + ((),), ("if", (), None, (), ()), (None, (), None, (), ()),
            ("f", [], None, (), ()), ("f", (), "row", (), ()), ("f", (), True, (), ()), ("f", (), None, [], ()),
            ("f", (), None, (), []), ("f", (), None, (), None), ("f", (("p", "worth"),), None, (), ()),
            ("f", (("p", "worth", REC),), None, (), ()), ("f", (("if", "worth", "number"),), None, (), ()),
            ("f", (["p", "worth", "number"],), None, (), ()), ("f", (("p", "at", "number"),), None, (), ()),
            ("f", (), None, (("x", "row"),), ()), ("f", (), None, (["x", "number"],), ()))
        for function in wrong:
            self.assertFalse(is_unit(("u", 10, (), (), (function,))), function)
        self.assertFalse(is_unit(("u", 10, (), (), list(plain[:2]))))
        self.assertFalse(is_unit(("u", 10, (), (), (plain[0], plain[0]))))
        params = tuple((f"p{at}", "worth", "truth") for at in range(5))
        told = tuple((f"x{at}", REC) for at in range(7))
        self.assertTrue(is_unit(("u", 10, (), (), (("f", params[:4], None, told[:6], ()),))))
        self.assertFalse(is_unit(("u", 10, (), (), (("f", params, None, (), ()),))))
        self.assertFalse(is_unit(("u", 10, (), (), (("f", (), None, told, ()),))))

    def test_names_that_come_twice(self):
        a = ("a", "worth", "number")
        for params, told, stores in (
                ((a, a), (), ()), ((a,), (("a", "number"),), ()), ((a,), (), (("a", REC),)),
                ((), (("a", REC), ("a", "number")), ()), ((), (("a", REC),), (("a", REC),))):
            self.assertFalse(is_unit(("u", 10, (), stores, (("f", params, None, told, ()),))))
        # names of functions, of units and of what a body reaches may be the same
        self.assertTrue(is_unit(("u", 10, (("f", "f", (), None),), (("u", "number"),), (("f", (a,), None, (), ()),))))
        both = (("f", (a,), None, (), ()), ("g", (), None, (("a", REC),), ()))
        self.assertTrue(is_unit(("u", 10, (), (), both)))


class StatementsTest(unittest.TestCase):

    def test_forms(self):
        for statement in (
                None, "break", (), ("jump",), ["break"], ("break", 1), ("again", 1), ("put", X), ("put", X, N, N),
                (["put"], X, N), (1,), ("number", 1), ("read", X), ("name", "x"), ("call", None, ("own", 1)),
                ("if", YES, ()), ("while", YES), ("show", N), ("ask",), ("fail",), ("give",), ((),)):
            self.assertFalse(is_body(statement), statement)
        self.assertFalse(is_unit(unit_with([("fail", 1)])))
        self.assertFalse(is_unit(unit_with(None)))

    def test_put(self):
        self.assertTrue(is_body(("put", X, N)))
        self.assertTrue(is_body(("put", B, YES)))
        self.assertFalse(is_body(("put", X, YES)))
        self.assertFalse(is_body(("put", B, N)))
        self.assertFalse(is_body(("put", ("name", "rec"), read(("name", "rec")))))
        self.assertFalse(is_body(("put", read(X), N)))
        self.assertFalse(is_body(("put", X, X)))
        self.assertFalse(is_body(("put", X, None)))
        self.assertFalse(is_body(("put", None, N)))

    def test_show_ask_fail(self):
        for port in (0, 5):
            self.assertTrue(is_body(("show", port, N)))
        for port in (-1, 6, True, None, "0"):
            self.assertFalse(is_body(("show", port, N)))
        self.assertFalse(is_body(("show", 0, YES)))
        self.assertTrue(is_body(("ask", X)))
        self.assertTrue(is_body(("ask", ("field", ("item", ("name", "s"), N), "a"))))
        for place in (B, ("name", "rec"), N, None):
            self.assertFalse(is_body(("ask", place)))
        for n in (0, 9):
            self.assertTrue(is_body(("fail", n)))
        for n in (-1, 10, True, None, "1"):
            self.assertFalse(is_body(("fail", n)))

    def test_if_and_while(self):
        self.assertTrue(is_body(("if", YES, (), ()), ("while", YES, ())))
        self.assertTrue(is_body(("if", YES, (("fail", 1),), (("fail", 2),))))
        self.assertFalse(is_body(("if", N, (), ())))
        self.assertFalse(is_body(("while", N, ())))
        for body in ([], None, (("put", X),), ("fail", 1)):
            self.assertFalse(is_body(("if", YES, body, ())))
            self.assertFalse(is_body(("if", YES, (), body)))
            self.assertFalse(is_body(("while", YES, body)))

    def test_break_and_again(self):
        for word in ("break", "again"):
            self.assertFalse(is_body((word,)))
            self.assertFalse(is_body(("if", YES, ((word,),), ())))
            self.assertTrue(is_body(("while", YES, ((word,),))))
            self.assertTrue(is_body(("while", YES, (("if", YES, (), ((word,),)), ("while", YES, ()), (word,)))))
            self.assertFalse(is_body(("while", YES, ()), (word,)))

    def test_give(self):
        self.assertTrue(is_body(("give", None)))
        for told in (N, ("number", 99), 5, X, ("read", ("name", "y"))):
            self.assertFalse(is_body(("give", told)))
        self.assertTrue(is_body(("give", N), result="number"))
        self.assertTrue(is_body(("give", YES), result="truth"))
        self.assertFalse(is_body(("give", None), result="number"))
        self.assertFalse(is_body(("give", N), result="truth"))
        self.assertFalse(is_body(("give", YES), result="number"))

    def test_callees(self):
        self.assertTrue(is_body(("call", None, ("own", 2), ())))
        self.assertTrue(is_body(("call", None, ("own", 0), ())))
        self.assertTrue(is_body(("call", None, ("use", 0), ())))
        for callee in (
                ("own", 3), ("own", -1), ("own", True), ("use", 3), ("use", -1), ("own",), ["own", 2], None, "own",
                ("own", 2, 0), ("by", 0), (None, 0), ("own", "h"), ("use", None), ("own", 10 ** 99)):
            self.assertFalse(is_body(("call", None, callee, ())), callee)

    def test_targets(self):
        rec = ("name", "rec")
        self.assertTrue(is_body(("call", X, ("own", 1), (N, rec))))
        self.assertTrue(is_body(("call", None, ("own", 1), (N, rec))))
        self.assertTrue(is_body(("call", B, ("use", 1), (N, rec))))
        self.assertTrue(is_body(("call", X, ("use", 2), ())))
        self.assertFalse(is_body(("call", B, ("own", 1), (N, rec))))
        self.assertFalse(is_body(("call", X, ("use", 1), (N, rec))))
        self.assertFalse(is_body(("call", X, ("own", 2), ())))
        self.assertFalse(is_body(("call", rec, ("use", 2), ())))
        self.assertFalse(is_body(("call", 0, ("use", 2), ())))
        for target in (("name", "y"), ("field", X, "a"), 0):
            self.assertFalse(is_body(("call", target, ("own", 2), ())))

    def test_args(self):
        rec = ("name", "rec")
        item = ("item", ("name", "s"), N)
        self.assertTrue(is_body(("call", None, ("own", 1), (read(X), item))))
        self.assertTrue(is_body(("call", None, ("own", 1), (read(("field", item, "a")), item))))
        for args in (
                (), (N,), (N, rec, N), [N, rec], (YES, rec), (X, rec), (N, read(rec)), (N, X), (N, N), (N, None), None,
                (N, ("name", "s")), (rec, N)):
            self.assertFalse(is_body(("call", None, ("own", 1), args)), args)
        stores = (("rec", REC2),)
        self.assertFalse(is_unit(unit_with((("call", None, ("own", 1), (N, rec)),), stores=stores)))
        stores = (("rec", ("record", (("b", "truth"), ("a", "number")))),)
        self.assertFalse(is_unit(unit_with((("call", None, ("own", 1), (N, rec)),), stores=stores)))


class ExpressionsTest(unittest.TestCase):

    def test_numbers_and_truths(self):
        for n in (0, 9):
            self.assertTrue(is_expression(("number", n), "number"))
        for n in (10, -1, True, None, "1", 10 ** 99):
            self.assertFalse(is_expression(("number", n), "number"))
        self.assertTrue(is_expression(("truth", "yes"), "truth"))
        self.assertTrue(is_expression(("truth", "no"), "truth"))
        for word in ("maybe", True, 1, None, ["yes"]):
            self.assertFalse(is_expression(("truth", word), "truth"))

    def test_reads(self):
        self.assertTrue(is_expression(read(X), "number"))
        self.assertTrue(is_expression(read(B), "truth"))
        self.assertFalse(is_expression(read(B), "number"))
        self.assertFalse(is_expression(read(("name", "rec")), "number"))
        for value in (X, ("read",), ("read", None), ("read", N), ("read", X, X), None, ["read", X], "x", ("put", X, N)):
            self.assertFalse(is_expression(value, "number"), value)

    def test_signs(self):
        for word in ("plus", "minus", "times", "over", "rest"):
            self.assertTrue(is_expression((word, N, N), "number"))
            self.assertFalse(is_expression((word, N, N), "truth"))
            self.assertFalse(is_expression((word, YES, N), "number"))
            self.assertFalse(is_expression((word, N, YES), "number"))
            self.assertFalse(is_expression((word, N), "number"))
        for word in ("less", "same"):
            self.assertTrue(is_expression((word, N, N), "truth"))
            self.assertFalse(is_expression((word, N, N), "number"))
            self.assertFalse(is_expression((word, YES, YES), "truth"))
            self.assertFalse(is_expression((word, N, YES), "truth"))
        for word in ("and", "or"):
            self.assertTrue(is_expression((word, YES, YES), "truth"))
            self.assertFalse(is_expression((word, N, N), "truth"))
            self.assertFalse(is_expression((word, YES, N), "truth"))
            self.assertFalse(is_expression((word, YES, YES, YES), "truth"))
        self.assertTrue(is_expression(("not", YES), "truth"))
        self.assertFalse(is_expression(("not", N), "truth"))
        self.assertFalse(is_expression(("not", YES, YES), "truth"))

    def test_places(self):
        item = ("item", ("name", "s"), N)
        self.assertTrue(is_expression(read(("field", item, "a")), "number"))
        self.assertTrue(is_expression(read(("item", ("item", ("name", "grid"), N), N)), "number"))
        for place in (
                ("name", "y"), ("name", None), ("name", ["x"]), ("name",), ("field", X, "a"), ("field", item, "c"),
                ("field", item, None), ("field", item, ["a"]), ("field", ("name", "s"), "a"), ("item", X, N),
                ("item", ("name", "rec"), N), item, ("item", ("name", "grid"), N), ("field", item), ("item", item),
                ("item", ("item", ("name", "grid"), YES), N), ("item", ("item", ("name", "grid"), None), N),
                ["name", "x"]):
            self.assertFalse(is_expression(read(place), "number"), place)

    def test_params_are_in_reach_of_their_function_alone(self):
        told = (("p", "worth", "number"),)
        self.assertTrue(is_body(("show", 0, read(("name", "p"))), params=told))
        self.assertFalse(is_body(("show", 0, read(("name", "p")))))


class BoundsTest(unittest.TestCase):

    def test_many_nodes(self):
        fails = tuple(("fail", 1) for _ in range(151))
        self.assertTrue(is_body(*fails[:150]))
        self.assertFalse(is_body(*fails))
        puts = tuple(("put", X, N) for _ in range(50))
        self.assertTrue(is_body(*puts))
        self.assertFalse(is_body(*puts, ("fail", 1)))
        reads = tuple(("put", X, read(X)) for _ in range(37))
        self.assertTrue(is_body(*reads, ("fail", 1), ("fail", 1)))
        self.assertFalse(is_body(*reads, ("fail", 1), ("put", X, N)))
        inner = tuple(("fail", 1) for _ in range(148))
        self.assertTrue(is_body(("while", YES, inner)))
        self.assertFalse(is_body(("while", YES, inner), ("fail", 1)))
        self.assertFalse(is_body(("if", YES, inner, (("fail", 1),))))

    def test_each_function_has_its_own_nodes(self):
        fails = tuple(("fail", 1) for _ in range(150))
        self.assertTrue(is_body(*fails, more=(("k", (), None, (), fails),)))

    def test_deep_statements(self):
        body = ()
        for deep in range(1, 13):
            body = (("while", YES, body),)
            self.assertEqual(is_body(*body), deep <= 9, deep)
        body = (("fail", 1),)
        for deep in range(2, 13):
            body = (("if", YES, (), body),)
            self.assertEqual(is_body(*body), deep <= 10, deep)

    def in_whiles(self, statement, depth):
        """A body in which the statement stands at this depth."""
        body = (statement,)
        for _ in range(depth - 1):
            body = (("while", YES, body),)
        return body

    def test_deep_expressions(self):
        expression = N
        for deep in range(3, 14):
            expression = ("plus", N, expression)
            self.assertEqual(is_body(("show", 0, expression)), deep <= 10, deep)
        expression = YES
        for deep in range(3, 14):
            expression = ("not", expression)
            self.assertEqual(is_body(("while", expression, ())), deep <= 10, deep)
        index = N
        for deep in range(3, 13):
            self.assertEqual(is_body(("call", None, ("own", 1), (N, ("item", ("name", "s"), index)))), deep <= 10, deep)
            index = ("plus", N, index)
        place = ("item", ("item", ("name", "grid"), N), N)
        for deep in range(1, 10):
            self.assertEqual(is_body(*self.in_whiles(("ask", place), deep)), deep <= 7, deep)
            self.assertEqual(is_body(*self.in_whiles(("show", 0, read(place)), deep)), deep <= 6, deep)
            self.assertEqual(is_body(*self.in_whiles(("call", None, ("own", 1), (N, ("name", "rec"))), deep)), deep <= 9, deep)
        expression = read(X)
        for deep in range(4, 14):
            expression = ("plus", expression, N)
            self.assertEqual(is_body(("show", 0, expression)), deep <= 10, deep)

    def test_what_holds_itself_in_many_places(self):
        body = (("fail", 1),)
        expression = YES
        for _ in range(39):
            body = (("if", YES, body, body),)
            expression = ("and", expression, expression)
        self.assertFalse(is_body(*body))
        self.assertFalse(is_body(("while", expression, ())))
        kind = "number"
        for _ in range(39):
            kind = ("record", (("a", kind), ("b", kind)))
        self.assertFalse(is_unit(unit_with(stores=(("s", kind),))))


class ProgramsTest(unittest.TestCase):

    def unit(self, name="u", uses=(), size=10, functions=(("main", (), None, (), ()),)):
        return (name, size, uses, (), functions)

    def test_any_value(self):
        for value in ODD_VALUES + (self.unit(), [self.unit()], (list(self.unit()),)):
            self.assertIs(is_program(value), False)

    def test_units(self):
        self.assertTrue(is_program((self.unit(),)))
        many = tuple(self.unit(f"u{at}") for at in range(7))
        self.assertTrue(is_program(many[:6]))
        self.assertFalse(is_program(many))
        self.assertFalse(is_program(()))
        self.assertFalse(is_program((self.unit("u"), self.unit("v"), self.unit("u"))))
        self.assertFalse(is_program((self.unit("u"), self.unit("v", size=11))))
        self.assertFalse(is_program((self.unit("u"), self.unit("if"))))

    def test_main(self):
        self.assertFalse(is_program((self.unit(functions=(("f", (), None, (), ()),)),)))
        self.assertFalse(is_program((self.unit(functions=(("main", (), "number", (), ()),)),)))
        self.assertFalse(is_program((self.unit(functions=(("main", (("p", "worth", "truth"),), None, (), ()),)),)))
        self.assertTrue(is_program((self.unit(functions=(("f", (), "truth", (), ()), ("main", (), None, (), ()))),)))
        other = self.unit("v", functions=(("main", (), "number", (), ()),))
        self.assertTrue(is_program((self.unit(), other)))
        self.assertFalse(is_program((other, self.unit())))

    def test_uses(self):
        ways = (("worth", "number"), ("place", REC))
        params = (("a", "worth", "number"), ("b", "place", REC))
        other = self.unit("v", functions=(("f", params, "truth", (), ()),))
        self.assertTrue(is_program((self.unit(uses=(("v", "f", ways, "truth"),)), other)))
        for use in (
                ("v", "g", ways, "truth"), ("w", "f", ways, "truth"), ("v", "f", ways, "number"),
                ("v", "f", ways, None), ("v", "f", ways[:1], "truth"), ("v", "f", (ways[1], ways[0]), "truth"),
                ("v", "f", (("place", "number"), ways[1]), "truth"), ("v", "f", (ways[0], ("place", REC2)), "truth"),
                ("v", "f", (("worth", "truth"), ways[1]), "truth")):
            self.assertFalse(is_program((self.unit(uses=(use,)), other)), use)
        back = self.unit("v", (("u", "main", (), None),), functions=(("f", params, "truth", (), ()),))
        self.assertTrue(is_program((self.unit(uses=(("v", "f", ways, "truth"),)), back)))

    def test_a_unit_alone_need_not_be_met(self):
        self.assertTrue(is_unit(self.unit(uses=(("v", "f", (), None),))))
        self.assertFalse(is_program((self.unit(uses=(("v", "f", (), None),)),)))

    def test_made_ones(self):
        for seed in range(60):
            program = make_program(dice_of(seed), 80)
            self.assertTrue(is_program(program))
            self.assertTrue(all(is_unit(unit) for unit in program))

    def test_by_name(self):
        self.assertTrue(is_unit(value=self.unit()) and is_program(value=(self.unit(),)))


class LabelsTest(unittest.TestCase):

    def test_the_example(self):
        test = ("less", read(("name", "i")), ("number", 3))
        ask = ("ask", ("item", ("name", "r"), read(("name", "i"))))
        body = (("while", test, (ask, ("call", None, ("own", 0), ()))),)
        told = (("i", "number"), ("r", ("row", 3, "number")))
        unit = ("u", 10, (), (), (("f", (), None, told, body),))
        self.assertEqual(labels_of(unit, 0), [("door", ()), ("round", (0, 2)), ("out", (0,)), ("back", (0, 2, 1))])
        self.assertEqual(stations_of(unit, 0), [("ask", (0, 2, 0)), ("bounds", (0, 2, 0, 1))])
        self.assertEqual(labels_of(unit=unit, f=0), labels_of(unit, 0))
        self.assertEqual(stations_of(unit=unit, f=0), stations_of(unit, 0))

    def test_reading_order(self):
        item = ("field", ("item", ("name", "s"), ("rest", read(X), ("over", N, N))), "a")
        rec = ("name", "rec")
        call = ("call", item, ("own", 1), (("over", N, N), rec))
        body = (
            ("if", ("same", ("rest", N, N), N), (("fail", 1), ("while", YES, (("break",),))), (call,)),
            ("show", 1, ("over", N, N)),
            ("ask", item),
        )
        unit = unit_with(body)
        self.assertTrue(is_unit(unit))
        self.assertEqual(labels_of(unit, 0), [
            ("door", ()), ("yes", (0, 2)), ("no", (0, 3)), ("round", (0, 2, 1, 2)), ("out", (0, 2, 1)),
            ("back", (0, 3, 0))])
        self.assertEqual(stations_of(unit, 0), [
            ("zero", (0, 1, 1)), ("fail", (0, 2, 0)), ("bounds", (0, 3, 0, 1, 1)), ("zero", (0, 3, 0, 1, 1, 2)),
            ("zero", (0, 3, 0, 1, 1, 2, 2)), ("zero", (0, 3, 0, 3, 0)), ("show", (1,)), ("zero", (1, 2)),
            ("ask", (2,)), ("bounds", (2, 1, 1)), ("zero", (2, 1, 1, 2)), ("zero", (2, 1, 1, 2, 2))])
        self.assertEqual(labels_of(unit, 1), [("door", ())])
        self.assertEqual(stations_of(unit, 1), [])

    def test_paths_lead_to_the_nodes(self):
        words = {"yes": "if", "no": "if", "round": "while", "out": "while", "back": "call"}
        stations = {"bounds": ("item",), "zero": ("over", "rest")}
        for seed in range(40):
            for unit in make_program(dice_of(seed), 100) + (make_deep_unit(dice_of(seed), 70),):
                for f, function in enumerate(unit[4]):
                    if not is_unit(unit):
                        continue
                    for word, path in labels_of(unit, f)[1:]:
                        node = function[4]
                        for step in path[:-1] if word in ("yes", "no", "round") else path:
                            node = node[step]
                        self.assertEqual(node[0], words[word])
                    for word, path in stations_of(unit, f):
                        node = function[4]
                        for step in path:
                            node = node[step]
                        self.assertIn(node[0], stations.get(word, (word,)))
                    paths = [path for _, path in stations_of(unit, f)]
                    self.assertEqual(paths, sorted(paths))

    def test_bad_units_and_functions(self):
        for ask in (labels_of, stations_of):
            for value in ODD_VALUES + (list(unit_with()),):
                self.assertRaises(BadUnit, ask, value, 0)
            self.assertRaises(BadUnit, ask, None, None)
            for f in (3, -1, True, False, None, "0", [0], 10 ** 99, (0,)):
                self.assertRaises(BadFunction, ask, unit_with(), f)

    def test_what_is_returned_is_new(self):
        unit = unit_with((("show", 1, N), ("if", YES, (), ())))
        labels_of(unit, 0).clear()
        stations_of(unit, 0).append(1)
        self.assertEqual(len(labels_of(unit, 0)), 3)
        self.assertEqual(len(stations_of(unit, 0)), 1)
