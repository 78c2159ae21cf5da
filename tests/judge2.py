"""A second reading of [57]: what temps and places hold are trees, told by tuples; new ones bear a number."""

SILENT_ROWS = ("const", "copy", "plus", "minus", "times", "less", "same", "and", "or", "not", "base", "index", "offset")
READ_CELLS = {"plus": (2, 3), "minus": (2, 3), "times": (2, 3), "less": (2, 3), "same": (2, 3), "and": (2, 3), "or": (2, 3),
              "not": (2,), "index": (2, 3), "offset": (2,), "over": (2, 3), "rest": (2, 3), "load": (2,), "save": (1, 2),
              "check": (1,), "divisor": (1,), "show": (2,), "ask": ()}


class Refused(Exception):
    pass


class Judge2:

    def __init__(self, rows, f, placing, paper):
        self.rows, self.f = rows, f
        self.code = rows[5][f]
        self.cells, self.frame = placing
        self.paper = paper
        first = len(self.code[1])
        self.first_words = []
        for words in self.code[3]:
            self.first_words.append(first)
            first += words
        self.slots = range(len(self.code[1]), first)
        self.many = 0

    def judge(self):
        for block in sorted(self.paper):
            try:
                self.walk(block)
            except Refused as error:
                return (block,) + error.args
        return None

    def new(self):
        self.many += 1
        return ("new", self.many)

    def walk(self, block):
        at, held = self.paper[block]
        # all that pairs link is one group, called by its least member
        groups = [{("place",) + place, ("temp", temp)} for place, temp in held]
        joined = []
        for group in groups:
            apart = [other for other in joined if not other & group]
            for other in joined:
                if other & group:
                    group = group | other
            joined = apart + [group]
        self.values = {}
        for group in joined:
            for one in group:
                self.values[one] = ("own", sorted(map(repr, group))[0])
        self.at = at
        self.late = False
        label, steps, ending = self.code[4][block]
        if block == 0:
            self.run_silent(-1)
            if self.at != 0 or self.cells[0] != ("room", self.frame):
                raise Refused(-1, self.at)
            self.at = 1
        if label is not None:
            self.run_silent(-1)
            if self.cells[self.at] != ("mark", label):
                raise Refused(-1, self.at)
            self.at += 1
        for k, step in enumerate(steps):
            if step[0] in SILENT_ROWS:
                self.silent_row(step)
            else:
                self.run_silent(k)
                self.loud(k, step)
        self.end(len(steps), ending)

    def value(self, key):
        return self.values.setdefault(key, ("own", repr(key)))

    def temp(self, t):
        return self.value(("temp", t))

    def register(self, r):
        return self.value(("place", "register", r))

    def silent_row(self, step):
        word, t = step[:2]
        if word == "const":
            told = ("number", step[2])
        elif word == "copy":
            told = self.temp(step[2])
        elif word == "base":
            kind, area = step[2]
            told = ("store", area) if kind == "store" else ("base", self.first_words[area])
        else:
            read = READ_CELLS[word]
            told = (word,) + tuple(self.temp(x) if at in read else x for at, x in list(enumerate(step))[2:])
        self.values["temp", t] = told

    def is_silent(self, cell):
        if cell[0] in ("get", "keep"):
            word = cell[2] if cell[0] == "get" else cell[1]
            return self.late if word in self.slots else word <= self.frame + 5
        return cell[0] in SILENT_ROWS[2:] + ("set", "move", "store", "jump")

    def silent_cell(self, cell):
        word = cell[0]
        self.at += 1
        if word == "jump":
            self.at = cell[1]
            return
        if word == "keep":
            self.values["place", "word", cell[1]] = self.register(cell[2])
            return
        if word == "set":
            told = ("number", cell[2])
        elif word == "move":
            told = self.register(cell[2])
        elif word == "get":
            told = self.value(("place", "word", cell[2]))
        elif word in ("base", "store"):
            told = (word, cell[2])
        else:
            read = READ_CELLS[word]
            told = (word,) + tuple(self.register(x) if at in read else x for at, x in list(enumerate(cell))[2:])
        self.values["place", "register", cell[1]] = told

    def run_silent(self, k, goal=None):
        """Goes on up to a loud cell, or up to a goal."""
        been = []
        while True:
            if goal is not None and self.at == goal:
                return
            if self.at == len(self.cells) or self.at in been:
                raise Refused(k, self.at)
            if not self.is_silent(self.cells[self.at]):
                if goal is None:
                    return
                raise Refused(k, self.at)
            been.append(self.at)
            self.silent_cell(self.cells[self.at])

    def loud(self, k, step):
        cell = self.cells[self.at]
        if step[0] == "clear":
            if cell != ("clear", self.first_words[step[1]], self.code[3][step[1]]):
                raise Refused(k, self.at)
        else:
            if cell[0] != step[0]:
                raise Refused(k, self.at)
            read = READ_CELLS[step[0]]
            gives = step[0] in ("over", "rest", "load", "ask")
            for at in range(1, len(step)):
                if at in read and self.temp(step[at]) != self.register(cell[at]):
                    raise Refused(k, self.at)
                if at not in read and not (gives and at == 1) and step[at] != cell[at]:
                    raise Refused(k, self.at)
            if gives:
                self.values["temp", step[1]] = self.values["place", "register", cell[1]] = self.new()
        self.at += 1

    def end(self, k, ending):
        word = ending[0]
        if word == "jump":
            self.goal(k, ending[1])
            return
        self.late = word == "last"
        self.run_silent(k)
        cell = self.cells[self.at]
        words = {"test": "unless", "give": "return"}
        fits = cell[0] == words.get(word, word)
        if word == "test":
            fits = fits and self.register(cell[1]) == self.temp(ending[1])
        elif word == "give":
            fits = fits and (ending[1] is None or self.register(0) == self.temp(ending[1]))
        elif word == "fail":
            fits = cell == ending
        else:
            callee, args, first = (ending[1], ending[2], 0) if word == "last" else (ending[2], ending[3], self.frame + 2)
            fits = fits and cell[1:] == ((callee,) if word == "last" else (callee, self.frame))
            fits = fits and all(
                self.value(("place", "word", first + i)) == self.temp(arg) for i, arg in enumerate(args))
        if not fits:
            raise Refused(k, self.at)
        self.at += 1
        if word == "test":
            before = dict(self.values)
            self.goal(k, ending[2])
            self.values = before
            self.at = cell[2]
            self.goal(k, ending[3])
        elif word == "call":
            for key in list(self.values):
                if key[0] == "place" and (key[1] == "register" or key[2] >= self.frame):
                    self.values[key] = self.new()
            result = self.values["place", "register", 0] = self.new()
            for r in range(1, 8):
                self.values["place", "register", r] = self.new()
            for w in range(self.frame, self.frame + 6):
                self.values["place", "word", w] = self.new()
            if ending[1] is not None:
                self.values["temp", ending[1]] = result
            self.goal(k, ending[4])

    def goal(self, k, goal):
        if goal not in self.paper:
            raise Refused(k, None)
        address, held = self.paper[goal]
        self.run_silent(k, address)
        for place, temp in held:
            if self.value(("place",) + place) != self.temp(temp):
                raise Refused(k, address)
