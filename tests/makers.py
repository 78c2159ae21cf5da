"""Makes programs by dice with a fixed beginning, so that each run of the tests makes the same ones."""

import random

SIGNS = ("plus", "minus", "times", "over", "rest")
PLAIN = ("number", "truth")
DEEP = 10


def make_kind(dice, room=40, deep=4):
    roll = dice.random()
    if deep < 2 or roll < 0.5:
        return dice.choice(PLAIN)
    if roll < 0.75:
        items = dice.randint(1, min(64, max(1, room // 2), 5))
        return ("row", items, make_kind(dice, room // items, deep - 1))
    fields = []
    for name in dice.sample(["a", "b", "c", "d2", "e", "f"], dice.randint(1, min(6, room, 3))):
        fields.append((name, make_kind(dice, max(1, room // 6), deep - 1)))
    return ("record", tuple(fields))


def paths_to(kind, wanted):
    """The lists of steps (field names, None for an index) to inner kinds that are wanted."""
    found = [[]] if kind in wanted else []
    if isinstance(kind, tuple):
        if kind[0] == "row":
            found += [[None] + rest for rest in paths_to(kind[2], wanted)]
        else:
            for name, inner in kind[1]:
                found += [[name] + rest for rest in paths_to(inner, wanted)]
    return found


class BodyMaker:
    """Makes a body of a function; nodes tells how many it may have (None: as many as come)."""

    def __init__(self, dice, size, names, calls, result, nodes, tame):
        self.dice = dice
        self.size = size
        self.names = names
        self.calls = calls
        self.result = result
        self.left = nodes
        # tame bodies seldom fail and seldom go on for ever
        self.tame = tame

    def count(self, many=1):
        self.left -= many

    def place(self, wanted, depth):
        """A place of a wanted kind whose outermost node stands at depth, or None."""
        choices = []
        for name, kind in self.names.items():
            for steps in paths_to(kind, wanted):
                if depth + len(steps) <= DEEP:
                    choices.append((name, steps))
        if not choices:
            return None
        name, steps = self.dice.choice(choices)
        place = ("name", name)
        self.count(1 + len(steps))
        kind = self.names[name]
        for at, step in enumerate(steps):
            if step is None:
                index_depth = depth + len(steps) - at
                limit = kind[1]
                place = ("item", place, self.index(limit, index_depth))
                kind = kind[2]
            else:
                place = ("field", place, step)
                kind = dict(kind[1])[step]
        return place

    def index(self, limit, depth):
        if self.dice.random() < (0.7 if self.tame else 0.3):
            self.count()
            return ("number", self.dice.randrange(min(limit, self.size)))
        if self.tame and depth < DEEP:
            self.count(2)
            return ("rest", self.expression("number", depth + 1), ("number", min(limit, self.size - 1)))
        return self.expression("number", depth)

    def expression(self, kind, depth):
        roll = self.dice.random()
        if depth >= DEEP or roll < 0.25 or self.left < 3:
            return self.leaf(kind)
        if roll < 0.6 and depth + 1 <= DEEP:
            place = self.place([kind], depth + 1)
            if place is None:
                return self.leaf(kind)
            self.count()
            return ("read", place)
        self.count()
        if kind == "number":
            word = self.dice.choice(SIGNS)
            left = self.expression("number", depth + 1)
            if self.tame and word in ("over", "rest"):
                self.count()
                return (word, left, ("number", self.dice.randrange(1, self.size)))
            return (word, left, self.expression("number", depth + 1))
        word = self.dice.choice(("less", "same", "and", "or", "not"))
        if word == "not":
            return (word, self.expression("truth", depth + 1))
        inner = "number" if word in ("less", "same") else "truth"
        left = self.expression(inner, depth + 1)
        return (word, left, self.expression(inner, depth + 1))

    def leaf(self, kind):
        self.count()
        if kind == "number":
            return ("number", self.dice.randrange(self.size))
        return ("truth", self.dice.choice(("yes", "no")))

    def body(self, depth, looped, most=5):
        found = []
        least = most // 2 if self.tame and depth < 3 else 0
        for _ in range(self.dice.randint(least, most)):
            if self.left is not None and self.left < 12:
                break
            statement = self.statement(depth, looped)
            if statement is not None:
                found.append(statement)
        return tuple(found)

    def statement(self, depth, looped):
        word = self.dice.choice((
            "put", "put", "put", "call", "call", "if", "if", "while", "break", "again", "give", "show", "show", "ask",
            "ask", "fail",
        ))
        deeper = depth + 1
        if word in ("break", "again"):
            if not looped or self.tame and self.dice.random() < 0.8:
                return None
            self.count()
            return (word,)
        if word == "fail":
            if self.tame and self.dice.random() < 0.95:
                return None
            self.count()
            return (word, self.dice.randint(0, 9))
        if word == "give" and self.result is None:
            if self.dice.random() < (0.95 if self.tame else 0.7):
                return None
            self.count()
            return (word, None)
        if word == "give" and self.dice.random() < (0.9 if self.tame else 0.6):
            return None
        if word == "call":
            return self.call(depth)
        if deeper > DEEP:
            return None
        self.count()
        if word == "give":
            return (word, self.expression(self.result, deeper))
        if word == "show":
            return (word, self.dice.randint(0, 5), self.expression("number", deeper))
        if word == "if":
            test = self.expression("truth", deeper)
            first = self.body(deeper, looped, 3)
            return (word, test, first, self.body(deeper, looped, 3))
        if word == "while" and self.tame and depth < 7 and self.dice.random() < 0.9:
            return self.counting(depth)
        if word == "while":
            test = self.expression("truth", deeper)
            return (word, test, self.body(deeper, True, 4))
        if word == "ask":
            place = self.place(["number"], deeper)
            return None if place is None else (word, place)
        kind = self.dice.choice(PLAIN)
        place = self.place([kind], deeper)
        return None if place is None else (word, place, self.expression(kind, deeper))

    def counting(self, depth):
        """A while that counts, and so is mostly over at some time."""
        names = [name for name, kind in self.names.items() if kind == "number"]
        if not names:
            return None
        place = ("name", self.dice.choice(names))
        self.count(10)
        most = self.dice.randrange(1, min(self.size, 8))
        test = ("less", ("read", place), ("number", most))
        step = ("put", place, ("plus", ("read", place), ("number", 1)))
        return ("while", test, (step,) + self.body(depth + 1, True, 4))

    def call(self, depth):
        if not self.calls or self.tame and self.dice.random() < 0.3:
            return None
        callee, ways, result = self.dice.choice(self.calls)
        if ways and depth + 1 > DEEP:
            return None
        args = []
        for way, kind in ways:
            arg = self.expression(kind, depth + 1) if way == "worth" else self.place([kind], depth + 1)
            if arg is None:
                return None
            args.append(arg)
        target = None
        if result is not None and self.dice.random() < 0.7:
            target = self.place([result], depth + 1)
        self.count()
        return ("call", target, callee, tuple(args))


def make_ways(dice, kinds):
    ways = []
    for _ in range(dice.choice((0, 0, 1, 1, 2, 3, 4))):
        if dice.random() < 0.5:
            ways.append(("worth", dice.choice(PLAIN)))
        else:
            ways.append(("place", dice.choice(kinds) if kinds and dice.random() < 0.8 else make_kind(dice)))
    return tuple(ways)


def make_program(dice, nodes=100, tame=True, most_units=6, size=None):
    """A program; with many nodes it may be a loose one."""
    size = size or dice.choice((2, 3, 10, 16, 100, 10000))
    many = dice.randint(1, most_units)
    unit_names = dice.sample(["u", "v", "w", "x1", "main", "unitofup", "a"], many)
    kinds = [make_kind(dice) for _ in range(4)]
    heads = []
    for at in range(many):
        names = dice.sample(["f", "g", "h", "main", "u", "v", "k9"], dice.randint(1, 6))
        if at == 0 and "main" not in names:
            names[dice.randrange(len(names))] = "main"
        told = []
        for name in names:
            if at == 0 and name == "main":
                told.append((name, (), None))
            else:
                told.append((name, make_ways(dice, kinds), dice.choice((None, "number", "truth"))))
        heads.append(told)
    units = []
    for at in range(many):
        units.append(make_unit(dice, at, unit_names, heads, size, kinds, nodes, tame))
    return tuple(units)


def make_unit(dice, at, unit_names, heads, size, kinds, nodes, tame):
    others = [(unit_names[j], name, ways, result)
              for j in range(len(heads)) if j != at for name, ways, result in heads[j]]
    uses = tuple(dice.sample(others, min(len(others), dice.randint(0, 6))))
    store_names = dice.sample(["s", "t", "r0", "q", "main", "f"], dice.randint(0, 6))
    stores = tuple((name, dice.choice(kinds) if dice.random() < 0.7 else make_kind(dice)) for name in store_names)
    calls = [(("own", i), ways, result) for i, (_, ways, result) in enumerate(heads[at])]
    calls += [(("use", i), ways, result) for i, (_, _, ways, result) in enumerate(uses)]
    functions = []
    for name, ways, result in heads[at]:
        free = [x for x in ["i", "j", "k", "l", "m", "n", "o", "p", "u", "v", "zzzzzzzz"] if x not in store_names]
        dice.shuffle(free)
        params = tuple((free.pop(), way, kind) for way, kind in ways)
        told = tuple((free.pop(), dice.choice(kinds) if dice.random() < 0.6 else make_kind(dice))
                     for _ in range(dice.randint(0, 6)))
        names = {x: kind for x, _, kind in params}
        names.update(dict(told + stores))
        maker = BodyMaker(dice, size, names, calls, result, nodes, tame)
        functions.append((name, params, result, told, maker.body(1, False, 8)))
    return (unit_names[at], size, uses, stores, tuple(functions))


def dice_of(seed):
    return random.Random(seed)


def make_deep_unit(dice, nodes=300):
    """A unit whose one interesting body stands in many whiles, so that its nodes come near the greatest depth."""
    size = 10
    kinds = [make_kind(dice, 60) for _ in range(3)]
    names = {"i": "number", "b": "truth"}
    told = [("i", "number"), ("b", "truth")]
    for at, kind in enumerate(kinds + [make_kind(dice, 60)]):
        names[f"r{at}"] = kind
        told.append((f"r{at}", kind))
    ways = make_ways(dice, kinds)
    params = tuple((f"p{at}", way, kind) for at, (way, kind) in enumerate(ways))
    calls = [(("own", 0), (), None), (("own", 1), ways, dice.choice((None, "number", "truth")))]
    maker = BodyMaker(dice, size, names, calls, None, nodes, False)
    deep = dice.randint(4, 9)
    body = maker.body(deep + 1, True, 12)
    for _ in range(deep):
        body = (("while", ("truth", "yes"), body),)
    functions = (("main", (), None, tuple(told), body), ("g", params, calls[1][2], (), ()))
    return ("u", size, (), (), functions)
