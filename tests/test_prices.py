"""[69]: prices of labels, cell by cell, and their sums."""

import unittest

from labelclocks.books import WORDS, even_book
from labelclocks.cells import read_registers
from labelclocks.errors import BadBook, BadLabels, BadObject, NotLed
from labelclocks.prices import prices, sum_of
from tests.checks import ODD_VALUES
from tests.compile import dice_book, objects_by_dice
from tests.makers import dice_of, make_program
from tests.test_led import END, mark
from tests.test_linking import cells_of, thing

# each word costs something of its own: 2, 4, 6 ..
BOOK = {word: 2 * at + 2 for at, word in enumerate(WORDS)}
BOOK.update({"taken": 91, "wait": 97})
CALL = ("call", ("own", 0), 0)


def label(k):
    return (0, k, ())


def cost(*words):
    return sum(BOOK[word] for word in words)


class PricesTest(unittest.TestCase):

    def ask(self, cells, told):
        made = thing(functions=(("main", cells_of(0, *cells)),), stores=(("s", 3),))
        found = prices(made, BOOK)
        self.assertEqual(found, told)
        self.assertEqual(list(found), sorted(found))

    def test_a_door(self):
        self.ask([END], {label(0): (cost("room"), (), cost("room", "return"))})

    def test_stretches(self):
        for last in (("return",), ("last", ("own", 0)), ("fail", 1, (0, 7))):
            stations = (((0, 7), cost("room", "set", "fail")),) if last[0] == "fail" else ()
            self.ask([("set", 0, 1), last], {label(0): (cost("room"), stations, cost("room", "set", last[0]))})
        # up to the next mark, which is fallen to
        self.ask([("set", 0, 1), mark(1), ("not", 0, 0), END], {
            label(0): (cost("room"), (), cost("room", "set")), label(1): (0, (), cost("not", "return"))})
        # up to a call, with what leads to the mark behind it
        self.ask([("set", 0, 1), CALL, ("jump", 5), mark(1), END], {
            label(0): (cost("room"), (), cost("room", "set", "call")),
            label(1): (cost("jump"), (), cost("jump", "return"))})

    def test_arms(self):
        cells = [("unless", 0, 6), ("jump", 4), mark(1), END, ("jump", 7), ("jump", 8), mark(2), ("set", 0, 0), END]
        self.ask(cells, {
            label(0): (cost("room"), (), cost("room", "unless")),
            label(1): (cost("jump"), (), cost("jump", "return")),
            label(2): (cost("taken", "jump", "jump"), (), cost("taken", "jump", "jump", "set", "return"))})
        self.ask([("unless", 0, 5), mark(1), END, mark(2), END], {
            label(0): (cost("room"), (), cost("room", "unless")), label(1): (0, (), cost("return")),
            label(2): (cost("taken"), (), cost("taken", "return"))})

    def test_jumps_of_the_stretch(self):
        # jumps lead through a stretch, and bear it to a mark to which another one falls
        cells = [("jump", 5), mark(1), END, ("set", 0, 1), ("jump", 8), END, ("not", 0, 0), ("jump", 3)]
        self.ask(cells, {
            label(0): (cost("room"), (), cost("room", "jump", "set", "jump", "not", "jump")), label(1): (0, (), cost("return"))})

    def test_stations(self):
        cells = [("check", 0, 2, (0, 3)), ("set", 0, 1), ("divisor", 0, (1, 4)), ("ask", 1, (2, 5)), ("show", 3, 1, (3, 6)), ("fail", 4, (5, 8))]
        ahead = ["room", "check"]
        stations = [((0, 3), cost(*ahead))]
        for words, station in (
                (["set", "divisor"], (1, 4)), (["ask"], (2, 5)), (["show"], (3, 6)), (["fail"], (5, 8))):
            ahead += words
            stations.append((station, cost(*ahead)))
        self.ask(cells, {label(0): (cost("room"), tuple(stations), cost(*ahead))})
        # beats from the beginning of the lead
        self.ask([CALL, ("jump", 4), mark(1), ("show", 0, 0, (0, 1)), END], {
            label(0): (cost("room"), (), cost("room", "call")),
            label(1): (cost("jump"), (((0, 1), cost("jump", "show")),), cost("jump", "show", "return"))})

    def test_waiting(self):
        for ahead, waits in (
                (("get", 0, 0), True), (("load", 0, 1), True), (("get", 1, 0), False), (("set", 0, 0), False), (("ask", 0, (0, 0)), False)):
            stations = (((0, 0), cost("room", "ask")),) if ahead[0] == "ask" else ()
            more = BOOK["wait"] if waits else 0
            self.ask([ahead, ("not", 1, 0), ("not", 1, 0), END], {
                label(0): (cost("room"), stations, cost("room", ahead[0], "not", "not", "return") + more)})
        # an unless waits, too; behind a mark, a jump or another cell nothing is waited for
        self.ask([("get", 0, 0), ("unless", 0, 6), mark(1), END, mark(2), END], {
            label(0): (cost("room"), (), cost("room", "get", "wait", "unless")), label(1): (0, (), cost("return")),
            label(2): (cost("taken"), (), cost("taken", "return"))})
        self.ask([("get", 0, 0), mark(1), ("not", 1, 0), END], {
            label(0): (cost("room"), (), cost("room", "get")), label(1): (0, (), cost("not", "return"))})
        self.ask([("get", 0, 0), ("jump", 4), ("not", 1, 0), END], {
            label(0): (cost("room"), (), cost("room", "get", "jump", "not", "return"))})
        # get and load read, too
        self.ask([("get", 0, 0), ("load", 0, 0), ("save", 1, 0), END], {
            label(0): (cost("room"), (), cost("room", "get", "wait", "load", "wait", "save", "return"))})
        self.ask([("store", 0, "s"), ("load", 0, 0), ("index", 1, 1, 0, 2, 3), END], {
            label(0): (cost("room"), (), cost("room", "store", "load", "wait", "index", "return"))})

    def test_labels_of_all_functions(self):
        made = thing(functions=(("main", cells_of(0, END)), ("f", cells_of(1, ("set", 0, 0), ("mark", (0, 3, (("at", 1, 2),))), END))))
        self.assertEqual(list(prices(made, even_book(7)).items()), [
            ((0, 0, ()), (7, (), 14)), ((0, 3, (("at", 1, 2),)), (0, (), 7)), ((1, 0, ()), (7, (), 14))])

    def test_a_second_reading(self):
        for seed in range(25):
            dice = dice_of(seed)
            book = dice_book(dice)
            for made in objects_by_dice(dice, make_program(dice, nodes=70, most_units=3)):
                self.assertEqual(prices(made, book), slowly_priced(made, book))

    def test_another_book(self):
        made = objects_by_dice(dice_of(3), make_program(dice_of(3), nodes=70, most_units=1))[0]
        one, two, twice = prices(made, even_book(1)), prices(made, even_book(2)), {}
        for key, (lead, stations, total) in one.items():
            twice[key] = (2 * lead, tuple((station, 2 * beats) for station, beats in stations), 2 * total)
        self.assertEqual(two, twice)

    def test_errors_in_order(self):
        right = thing()
        for value in ODD_VALUES:
            self.assertRaises(BadObject, prices, value, None)
            self.assertRaises(BadBook, prices, thing(functions=(("main", cells_of(0)),)), value)
        self.assertRaises(NotLed, prices, thing(functions=(("main", cells_of(0)),)), even_book(1))
        self.assertEqual(prices(thing=right, book=even_book(1)), {(0, 0, ()): (1, (), 2)})


def slowly_priced(made, book):
    """A second reading of [69]: the cells of a lead are looked for backwards from the mark."""
    found = {}
    for _, _, _, _, cells in made[6]:
        into = {at: [] for at in range(len(cells))}
        for at, cell in enumerate(cells):
            if cell[0] not in ("jump", "last", "return", "fail"):
                into[at + 1].append((at, False))
            if cell[0] in ("jump", "unless"):
                into[cell[-1]].append((at, cell[0] == "unless"))
        for at, cell in enumerate(cells):
            if cell[0] != "mark":
                continue
            lead, back = 0, at
            while len(into[back]) == 1 and cells[into[back][0][0]][0] == "jump":
                back = into[back][0][0]
                lead += book["jump"]
            ahead = cells[into[back][0][0]][0] if len(into[back]) == 1 else ""
            if ahead == "room":
                lead = book["room"]
            elif ahead == "unless":
                lead += book["taken"] if into[back][0][1] else 0
            elif ahead != "call":
                lead = 0
            beats, stations, last, goes = lead, [], ("mark",), at + 1
            while last[0] not in ("unless", "call", "last", "return", "fail") and cells[goes][0] != "mark":
                one = cells[goes]
                beats += book[one[0]]
                if last[0] in ("get", "load") and last[1] in read_registers(one):
                    beats += book["wait"]
                if one[0] in ("check", "divisor", "show", "ask", "fail"):
                    stations.append((one[-1], beats))
                last, goes = one, one[1] if one[0] == "jump" else goes + 1
            found[cell[1]] = (lead, tuple(stations), beats)
    return found


class SumTest(unittest.TestCase):

    def test_sums(self):
        table = {label(0): (1, (), 5), label(1): (0, (), 7), (1, 0, (("at", 0, 1),)): (2, (), 100)}
        self.assertEqual(sum_of(table, []), 0)
        self.assertEqual(sum_of(table, [label(0), label(1), label(0)]), 17)
        self.assertEqual(sum_of(table=table, labels=(label(1), (1, 0, (("at", 0, 1),)))), 107)

    def test_wrong_labels(self):
        table = {label(0): (1, (), 5)}
        for value in (label(1), None, [], {}, "0.0", (0, 0), (0, 0, []), (False, 0, ()), (0, 0, (("at", 0, 1),)), 0):
            for at in range(3):
                with self.assertRaises(BadLabels) as caught:
                    sum_of(table, [label(0)] * at + [value, value])
                self.assertEqual(caught.exception.index, at)
        for value in (None, label, {}, "", 0, {label(0): 1}):
            with self.assertRaises(BadLabels) as caught:
                sum_of(table, value)
            self.assertEqual(caught.exception.index, -1)


if __name__ == "__main__":
    unittest.main()
