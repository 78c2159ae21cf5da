"""[78]: webs of what images can do."""

import unittest

from labelclocks.books import WORDS, even_book
from labelclocks.cells import read_registers
from labelclocks.errors import BadBook, BadImage, TooMany
from labelclocks.images import is_image
from labelclocks.imagewebs import web_of
from labelclocks.linking import linked
from labelclocks.machine import Machine
from labelclocks.papers import heights, is_priced, priced
from labelclocks.prices import prices
from labelclocks.webs import is_web, useful
from tests.checks import ODD_VALUES
from tests.compile import dice_book, objects_by_dice, two
from tests.makers import dice_of, make_program

BOOK = {word: 2 * at + 2 for at, word in enumerate(WORDS)}
BOOK.update({"taken": 91, "wait": 97})
A, B, C = ("u", (0, 0, ())), ("u", (0, 1, ())), ("v", (0, 0, ()))
HALT = ("halt",)
GET = ("get", 1, 0)


def cost(*words):
    return sum(BOOK[word] for word in words)


def image(*cells, stores=5, registers=4):
    return ("image", 10, registers, stores, 100, cells)


def mark(label):
    return ("mark",) + label


class WebOfTest(unittest.TestCase):

    def ask(self, cells, nets, places, marks=(None,)):
        one = image(*cells)
        self.assertIs(is_image(one), True)
        told = web_of(one, BOOK)
        self.assertEqual(told, ((len(marks), nets), places, marks))
        self.assertIs(is_web(told[0]), True)
        return told[0]

    def test_halt(self):
        self.ask([HALT], ((3, ((0, 1, None, 0, (0,)), (1, 2, None, cost("halt"), ()))),), ((None, (0, None), None),))

    def test_each_plain_cell(self):
        stations = {"check": ("check", 1, 3, ("u", 0, 0)), "divisor": ("divisor", 1, ("u", 0, 0)), "show": ("show", 2, 1, ("u", 0, 0)),
                    "ask": ("ask", 1, ("u", 0, 0))}
        cells = {"set": ("set", 1, 2), "move": ("move", 1, 2), "not": ("not", 1, 2), "keep": ("keep", 3, 1), "clear": ("clear", 3, 2),
                 "save": ("save", 1, 2), "base": ("base", 1, 3), "store": ("point", 1, 2), "index": ("index", 1, 2, 3, 4, 5),
                 "offset": ("offset", 1, 2, 3), "room": ("room", 3)}
        cells.update({word: (word, 1, 2, 3) for word in ("plus", "minus", "times", "over", "rest", "less", "same", "and", "or")})
        cells.update(stations)
        for word, cell in cells.items():
            self.ask([cell, HALT], ((4, (
                (0, 1, None, 0, (0,)), (1, 2, None, cost(word), ()), (2, 3, None, cost("halt"), ()))),), (
                (None, (0, None), (1, None), None),))

    def test_loads(self):
        for word, cell in (("get", GET), ("load", ("load", 1, 2))):
            for further, waits in ((("not", 2, 1), True), (("not", 1, 2), False), (("show", 0, 1, ("u", 0, 0)), True), (("load", 3, 1), True)):
                loaded = further[1] if further[0] == "load" else None
                beats = cost(further[0]) + (BOOK["wait"] if waits else 0)
                self.ask([cell, further, HALT], ((5, (
                    (0, 1, None, 0, (0,)), (1, 2, None, cost(word), ()), (2, 3, None, beats, ()), (3, 4, None, cost("halt"), ()))),), (
                    (None, (0, None), (1, 1), (2, loaded), None),))

    def test_two_ways_to_a_cell(self):
        # loaded on one of them: the cell stands twice, None ahead of registers
        cells = [("unless", 0, 3), ("set", 1, 1), ("jump", 4), GET, ("not", 2, 1), HALT]
        self.ask(cells, ((9, (
            (0, 1, None, 0, (0,)), (1, 2, None, cost("unless"), ()), (1, 4, None, cost("unless", "taken"), ()),
            (2, 3, None, cost("set"), ()), (3, 5, None, cost("jump"), ()), (4, 6, None, cost("get"), ()),
            (5, 7, None, cost("not"), ()), (6, 7, None, cost("not", "wait"), ()), (7, 8, None, cost("halt"), ()))),), (
            (None, (0, None), (1, None), (2, None), (3, None), (4, None), (4, 1), (5, None), None),))

    def test_marks(self):
        # behind a mark nothing is waited for; marks ascend, and each one stands once
        cells = [mark(C), GET, mark(A), ("not", 2, 1), mark(C), mark(B), HALT, mark(("w", (0, 0, ())))]
        self.ask(cells, ((9, (
            (0, 1, None, 0, (0,)), (1, 2, None, 0, (3,)), (2, 3, None, cost("get"), ()), (3, 4, None, 0, (1,)), (4, 5, None, cost("not"), ()),
            (5, 6, None, 0, (3,)), (6, 7, None, 0, (2,)), (7, 8, None, cost("halt"), ()))),), (
            (None, (0, None), (1, None), (2, 1), (3, None), (4, None), (5, None), (6, None), None),), (None, A, B, C))

    def test_jumps_and_endings(self):
        # jump and last go to any cell; nothing comes behind a fail or a return of net 0
        self.ask([("last", 2), HALT, ("jump", 1)], ((5, (
            (0, 1, None, 0, (0,)), (1, 3, None, cost("last"), ()), (2, 4, None, cost("halt"), ()), (3, 2, None, cost("jump"), ()))),), (
            (None, (0, None), (1, None), (2, None), None),))
        for cell in (("fail", 1, ("u", 0, 0)), ("return",)):
            self.ask([cell, HALT], ((3, ((0, 1, None, 0, (0,)),)),), ((None, (0, None), None),))
        # an unless: first the cell behind, then the goal, also one and the same
        self.ask([("unless", 0, 1), HALT], ((4, (
            (0, 1, None, 0, (0,)), (1, 2, None, cost("unless"), ()), (1, 2, None, cost("unless", "taken"), ()), (2, 3, None, cost("halt"), ()))),), (
            (None, (0, None), (1, None), None),))
        self.ask([("jump", 0)], ((3, ((0, 1, None, 0, (0,)), (1, 1, None, cost("jump"), ()))),), ((None, (0, None), None),))

    def test_beyond_the_last_cell(self):
        self.ask([("set", 1, 1)], ((3, ((0, 1, None, 0, (0,)),)),), ((None, (0, None), None),))
        self.ask([("unless", 0, 0)], ((3, ((0, 1, None, 0, (0,)), (1, 1, None, cost("unless", "taken"), ()))),), ((None, (0, None), None),))
        self.ask([mark(A)], ((3, ((0, 1, None, 0, (0,)),)),), ((None, (0, None), None),), (None, A))
        # a call in the last cell has no cell behind it, and its goal is no net
        self.ask([("call", 0, 3)], ((3, ((0, 1, None, 0, (0,)),)),), ((None, (0, None), None),))

    def test_calls(self):
        cells = [("call", 4, 0), ("call", 2, 0), ("call", 4, 1), HALT, ("unless", 1, 6), ("return",), ("call", 2, 2), ("return",)]
        # net 1 is at 2 and net 2 at 4; a halt is no end of theirs, a return none of net 0
        self.ask(cells, (
            (6, ((0, 1, None, 0, (0,)), (1, 2, 2, cost("call"), ()), (2, 3, 1, cost("call"), ()), (3, 4, 2, cost("call"), ()), (4, 5, None, cost("halt"), ()))),
            (4, ((0, 1, None, 0, ()), (1, 2, 2, cost("call"), ()))),
            (6, ((0, 1, None, 0, ()), (1, 2, None, cost("unless"), ()), (1, 3, None, cost("unless", "taken"), ()), (2, 5, None, cost("return"), ()),
                 (3, 4, 1, cost("call"), ()), (4, 5, None, cost("return"), ()))),
        ), (
            (None, (0, None), (1, None), (2, None), (3, None), None), (None, (2, None), (3, None), None),
            (None, (4, None), (5, None), (6, None), (7, None), None)))

    def test_a_call_of_the_beginning(self):
        # net 1 is at 0 too, but ends at a return
        self.ask([("unless", 0, 2), ("return",), ("call", 0, 0), HALT], (
            (6, ((0, 1, None, 0, (0,)), (1, 2, None, cost("unless"), ()), (1, 3, None, cost("unless", "taken"), ()), (3, 4, 1, cost("call"), ()),
                 (4, 5, None, cost("halt"), ()))),
            (6, ((0, 1, None, 0, ()), (1, 2, None, cost("unless"), ()), (1, 3, None, cost("unless", "taken"), ()), (2, 5, None, cost("return"), ()),
                 (3, 4, 1, cost("call"), ()))),
        ), ((None, (0, None), (1, None), (2, None), (3, None), None),) * 2)

    def test_behind_a_call_nothing_is_waited_for(self):
        self.ask([GET, ("call", 3, 0), HALT, GET, ("return",)], (
            (5, ((0, 1, None, 0, (0,)), (1, 2, None, cost("get"), ()), (2, 3, 1, cost("call"), ()), (3, 4, None, cost("halt"), ()))),
            (4, ((0, 1, None, 0, ()), (1, 2, None, cost("get"), ()), (2, 3, None, cost("return"), ()))),
        ), ((None, (0, None), (1, 1), (2, None), None), (None, (3, None), (4, 1), None)))

    def test_too_many_places(self):
        for many, is_large in ((3998, False), (3999, True)):
            one = image(*[("set", 1, 1)] * (many - 1), HALT)
            if is_large:
                with self.assertRaises(TooMany) as caught:
                    web_of(one, BOOK)
                self.assertEqual(caught.exception.most, 4000)
            else:
                self.assertEqual(web_of(one, BOOK)[0][1][0][0], 4000)
        # what is not reached does not count
        self.assertEqual(web_of(image(HALT, *[("set", 1, 1)] * 30000), BOOK)[0][1][0][0], 3)
        # cells that stand twice do
        ahead = [("unless", 0, 3), ("set", 1, 1), ("jump", 4), GET]
        one = image(*ahead, *[GET] * 3992, HALT)
        self.assertEqual(web_of(one, BOOK)[0][1][0][0], 4000)
        self.assertRaises(TooMany, web_of, image(*ahead, *[GET] * 3993, HALT), BOOK)

    def test_too_many_nets(self):
        for many, is_large in ((399, False), (400, True)):
            one = image(*[("call", many + 1, 0) if at == 0 else ("call", many + 1 + at, 0) for at in range(many)], HALT, *[("return",)] * many)
            if is_large:
                with self.assertRaises(TooMany) as caught:
                    web_of(one, BOOK)
                self.assertEqual(caught.exception.most, 4000)
            else:
                self.assertEqual(len(web_of(one, BOOK)[0][1]), 400)

    def test_errors_in_order(self):
        for value in ODD_VALUES:
            self.assertRaises(BadImage, web_of, value, None)
            self.assertRaises(BadBook, web_of, image(*[GET] * 5000), value)
        self.assertEqual(web_of(book=BOOK, image=image(HALT))[2], (None,))


class Follower:
    """Goes along a machine's run in the web of its image, as [78] tells, and asks the clock behind each step."""

    def __init__(self, test, one, book, den, price, told):
        self.test = test
        self.machine = Machine(one, [3, 7], book)
        (self.web, self.places, self.marks) = web_of(one, book)
        self.cells = one[5]
        self.den, self.price, self.told = den, price, told
        self.useful = useful(self.web)
        # the nets of the calls that are not over, with the places behind them
        self.net, self.spot, self.behind = 0, (0, None), []
        self.sum = price[0]

    def place(self, net, spot):
        return self.places[net].index(spot)

    def pass_marks(self):
        while self.spot[0] < len(self.cells) and self.cells[self.spot[0]][0] == "mark":
            self.sum += self.price[self.marks.index(self.cells[self.spot[0]][1:])]
            self.spot = (self.spot[0] + 1, None)

    def follow(self, many):
        """Tells how many steps were asked."""
        self.pass_marks()
        for step in range(many):
            at, _ = self.spot
            cell = self.cells[at]
            beats = self.machine.beats()
            registers = self.machine.registers()
            self.machine.go(1)
            self.test.assertGreater(self.machine.beats(), beats)
            if self.machine.state() != "running":
                return step
            self.move(at, cell, registers)
            self.pass_marks()
            if self.spot not in self.places[self.net] or self.place(self.net, self.spot) not in self.useful[self.net]:
                return step
            left = self.told[self.net][self.place(self.net, self.spot)]
            for net, spot in self.behind:
                left += self.told[net][self.place(net, spot)]
            self.test.assertEqual(self.den * self.machine.beats(), self.sum - left)
        return many

    def move(self, at, cell, registers):
        word, before = cell[0], self.spot
        self.spot = (at + 1, cell[1] if word in ("get", "load") else None)
        if word in ("jump", "last") or word == "unless" and registers[cell[1]] == 0:
            self.spot = (cell[-1], None)
        elif word == "call":
            self.behind.append((self.net, (at + 1, None)))
            place = self.place(self.net, before)
            self.net = [edge[2] for edge in self.web[1][self.net][1] if edge[0] == place][0]
            self.spot = (cell[1], None)
        elif word == "return":
            self.net, self.spot = self.behind.pop()


class HeartTest(unittest.TestCase):

    def test_compiled_objects(self):
        steps = 0
        for seed in range(30):
            dice = dice_of(seed)
            program = two() if seed % 3 == 0 else make_program(dice, nodes=60, most_units=3)
            objects = objects_by_dice(dice, program)
            book = dice_book(dice)
            one = linked(objects, program[0][0], 2000, dice.random() < 0.5)
            web, places, marks = web_of(one, book)
            self.assertIs(is_web(web), True)
            # the totals of prices, and for label 0 the call and halt
            tables = {made[1]: prices(made, book) for made in objects}
            price = (book["call"] + book["halt"],) + tuple(tables[unit][label][2] for unit, label in marks[1:])
            told = heights(web, 1, price)
            self.assertIsNotNone(told)
            self.assertIs(is_priced(web, 1, price, told), True)
            steps += Follower(self, one, book, 1, price, told).follow(400)
        self.assertGreater(steps, 2000)

    def test_prices_of_its_own(self):
        steps = 0
        for seed in range(25):
            dice = dice_of(seed)
            program = two() if seed % 3 == 0 else make_program(dice, nodes=50, most_units=2)
            one = linked(objects_by_dice(dice, program), program[0][0], 2000)
            book = dice_book(dice)
            told = priced(web_of(one, book)[0])
            self.assertEqual(told[0], "prices")
            steps += Follower(self, one, book, *told[1:4]).follow(300)
        self.assertGreater(steps, 1000)

    def test_code_of_anybody(self):
        # a loop with a mark, a call in it, what is loaded and read: no object is like this
        one = image(
            ("set", 0, 3), ("set", 3, 1), mark(A), ("unless", 0, 12), GET, ("minus", 0, 0, 3), mark(B), ("call", 10, 2), ("jump", 2),
            HALT, mark(C), ("return",), ("jump", 9))
        for book in (BOOK, even_book(1), even_book(9)):
            told = priced(web_of(one, book)[0])
            self.assertEqual(told[0], "prices")
            self.assertGreater(Follower(self, one, book, *told[1:4]).follow(300), 20)

    def test_code_without_prices(self):
        # a ring without a mark
        one = image(("ask", 0, ("u", 0, 0)), ("unless", 0, 0), HALT)
        self.assertEqual(priced(web_of(one, BOOK)[0])[0], "none")
        # two ways between marks of unlike lengths
        one = image(mark(A), ("unless", 0, 3), ("set", 1, 1), HALT)
        self.assertEqual(priced(web_of(one, BOOK)[0])[0], "none")

    def test_a_second_reading(self):
        for seed in range(25):
            dice = dice_of(seed)
            cells = []
            many = dice.randint(2, 14)
            for _ in range(many):
                goal = dice.randrange(many)
                cells.append(dice.choice((
                    GET, ("load", 2, 1), ("not", 1, 2), ("jump", goal), ("unless", 1, goal), ("call", goal, 1), ("last", goal), ("return",), HALT,
                    mark(A), mark(B), ("fail", 0, ("u", 0, 0)))))
            self.assertEqual(web_of(image(*cells), BOOK), slow_web(cells))


def slow_web(cells):
    """A second reading of [78]: sets that grow until nothing comes any more."""
    def ways(at, waiting, is_first):
        cell, word = cells[at], cells[at][0]
        beats = 0 if word == "mark" else BOOK[word]
        if waiting is not None and word not in ("mark", "jump", "call", "last", "return", "halt", "fail") and waiting in read_registers(cell):
            beats += BOOK["wait"]
        behind = [(at + 1, cell[1] if word in ("get", "load") else None)] if at + 1 < len(cells) else []
        if word in ("jump", "last"):
            return [((cell[1], None), None, beats, None)]
        if word in ("return", "halt"):
            return [("end", None, beats, None)] if (word == "halt") == is_first else []
        if word == "fail":
            return []
        found = [(goal, cell[1] if word == "call" else None, beats, cell[1:] if word == "mark" else None) for goal in behind]
        return found + ([((cell[2], None), None, beats + BOOK["taken"], None)] if word == "unless" else [])
    nets = {None: {(0, None)}}
    before = None
    while before != (len(nets), sum(map(len, nets.values()))):
        before = (len(nets), sum(map(len, nets.values())))
        for begin in list(nets):
            for spot in list(nets[begin]):
                for goal, call, _, _ in ways(*spot, begin is None):
                    if goal != "end":
                        nets[begin].add(goal)
                    if call is not None:
                        nets.setdefault(call, {(call, None)})
    begins = [None] + sorted(begin for begin in nets if begin is not None)
    places = tuple(
        (None,) + tuple(sorted(nets[begin], key=lambda spot: (spot[0], spot[1] is not None, spot[1] or 0))) + (None,) for begin in begins)
    marks = (None,) + tuple(sorted({cells[at][1:] for told in nets.values() for at, _ in told if cells[at][0] == "mark"}))
    found = []
    for begin, told in zip(begins, places):
        edges = [(0, told.index((begin or 0, None)), None, 0, () if begin is not None else (0,))]
        for number, spot in enumerate(told):
            for goal, call, beats, label in ways(*spot, begin is None) if spot else []:
                to = len(told) - 1 if goal == "end" else told.index(goal)
                edges.append((number, to, None if call is None else begins.index(call), beats, () if label is None else (marks.index(label),)))
        found.append((len(told), tuple(edges)))
    return (len(marks), tuple(found)), places, marks


if __name__ == "__main__":
    unittest.main()
