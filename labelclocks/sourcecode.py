"""Writes the body of a function as a list of orders, one behind another in the sequence in which they are done.

An order works on a stack of numbers and addresses. ("number", n), ("name", x) put one onto it; ("field", words),
("item", items, words, station), ("read",), ("not",), ("over", station) and the other words that join two numbers take
theirs off it and put what they make onto it. ("put",) takes an address and a number, ("show", port, station) a number,
("ask", station) puts the number asked. ("label", k) and ("fail", n, station) make items. ("test", k, at) takes a truth;
if it is no, the order at the index at is next, if it is yes the one behind, with the label k. ("jump", at) goes on at
an index. ("call", callee, many, k) takes so many args; behind it stand the label k of the way back, and, if there is a
target, ("result",), which puts what the callee gave, below the address of the target. ("give", has_worth) is the end.
"""

from labelclocks.heads import names_in_reach
from labelclocks.kinds import field_kind, word_count
from labelclocks.signs import DIVIDING


class Code:
    """The orders of a body; for each label the rounds in which it stands, and the index of its order."""

    def __init__(self, orders, loops):
        self.orders = orders
        self.loops = loops
        self.starts = [0] * len(loops)
        for at, order in enumerate(orders):
            if order[0] == "label":
                self.starts[order[1]] = at


def code_of(unit, f):
    """The code of a function of a right unit."""
    coder = Coder(names_in_reach(unit, f))
    coder.new_label(())
    coder.orders.append(("label", 0))
    coder.add_body(unit[4][f][4])
    coder.orders.append(("give", False))
    return Code(coder.orders, coder.loops)


class Loop:
    """A while that is written: where its test begins, and the jumps that lead behind it."""

    def __init__(self, top):
        self.top = top
        self.breaks = []


class Coder:
    """Writes the orders of one body; labels and stations are numbered in reading order."""

    def __init__(self, names):
        self.kinds_named = names
        self.orders = []
        self.loops = []
        self.station_count = 0
        # the whiles around, and the numbers of their rounds
        self.whiles = []
        self.rounds = ()

    def new_label(self, rounds):
        """The number of the next label, which stands in these rounds."""
        self.loops.append(rounds)
        return len(self.loops) - 1

    def new_station(self):
        """The number of the next station."""
        self.station_count += 1
        return self.station_count - 1

    def hold(self):
        """The index of an order that is written later."""
        self.orders.append(())
        return len(self.orders) - 1

    def add_body(self, body):
        """The orders of statements."""
        for statement in body:
            word = statement[0]
            if word == "if":
                self.add_if(statement)
            elif word == "while":
                self.add_while(statement)
            elif word == "call":
                self.add_call(statement)
            elif word == "break":
                self.whiles[-1].breaks.append(self.hold())
            elif word == "again":
                self.orders.append(("jump", self.whiles[-1].top))
            else:
                self.add_simple(statement)

    def add_if(self, statement):
        """The orders of an if."""
        yes = self.new_label(self.rounds)
        no = self.new_label(self.rounds)
        self.orders.extend(self.worth(statement[1]))
        test = self.hold()
        self.orders.append(("label", yes))
        self.add_body(statement[2])
        behind = self.hold()
        self.orders[test] = ("test", yes, len(self.orders))
        self.orders.append(("label", no))
        self.add_body(statement[3])
        self.orders[behind] = ("jump", len(self.orders))

    def add_while(self, statement):
        """The orders of a while."""
        around = self.rounds
        turn = len(self.loops)
        self.new_label(around + (turn,))
        out = self.new_label(around)
        loop = Loop(len(self.orders))
        self.orders.extend(self.worth(statement[1]))
        test = self.hold()
        self.orders.append(("label", turn))
        self.whiles.append(loop)
        self.rounds = around + (turn,)
        self.add_body(statement[2])
        self.whiles.pop()
        self.rounds = around
        self.orders.append(("jump", loop.top))
        self.orders[test] = ("test", turn, len(self.orders))
        self.orders.append(("label", out))
        for at in loop.breaks:
            self.orders[at] = ("jump", len(self.orders))

    def add_call(self, statement):
        """The orders of a call."""
        _, target, callee, passed = statement
        back = self.new_label(self.rounds)
        # the target is read first, but worked out last
        told = [] if target is None else self.address(target)[0] + [("result",), ("put",)]
        for arg in passed:
            self.orders.extend(self.arg(arg))
        self.orders.append(("call", callee, len(passed), back))
        self.orders.append(("label", back))
        self.orders.extend(told)

    def add_simple(self, statement):
        """The orders of a statement without label."""
        word = statement[0]
        if word == "put":
            self.orders.extend(self.address(statement[1])[0] + self.worth(statement[2]) + [("put",)])
        elif word == "give":
            told = [] if statement[1] is None else self.worth(statement[1])
            self.orders.extend(told + [("give", statement[1] is not None)])
        else:
            station = self.new_station()
            if word == "show":
                self.orders.extend(self.worth(statement[2]) + [("show", statement[1], station)])
            elif word == "ask":
                self.orders.extend(self.address(statement[1])[0] + [("ask", station), ("put",)])
            else:
                self.orders.append(("fail", statement[1], station))

    def arg(self, node):
        """The orders of an arg: a place stands for its address."""
        return self.address(node)[0] if node[0] in ("name", "field", "item") else self.worth(node)

    def worth(self, expression):
        """The orders that put the value of an expression."""
        word = expression[0]
        if word == "number":
            return [expression]
        if word == "truth":
            return [("number", int(expression[1] == "yes"))]
        if word == "read":
            return self.address(expression[1])[0] + [("read",)]
        if word == "not":
            return self.worth(expression[1]) + [("not",)]
        order = (word, self.new_station()) if word in DIVIDING else (word,)
        left = self.worth(expression[1])
        return left + self.worth(expression[2]) + [order]

    def address(self, place):
        """The pair of the orders that put the address of a place and its kind."""
        if place[0] == "name":
            return [place], self.kinds_named[place[1]]
        if place[0] == "field":
            orders, kind = self.address(place[1])
            inner, ahead = field_kind(kind, place[2])
            return orders + [("field", ahead)], inner
        station = self.new_station()
        orders, kind = self.address(place[1])
        index = self.worth(place[2])
        return orders + index + [("item", kind[1], word_count(kind[2]), station)], kind[2]
