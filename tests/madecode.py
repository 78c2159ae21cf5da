"""Makes rows by dice that no function was lowered to: loops, temps given anew, copies round rings, addresses."""

S = (5, 999)
WORTHS = 6
ADDRESSES = (10, 11, 12)
NINE = ("plus", "minus", "times", "over", "rest", "less", "same", "and", "or")
SLOTS = (12, 7)
STORES = (("s", 12), ("q", 3))


class RowsMaker:
    """Makes the rows of one unit u with a few codes; copies come often, so that temps are alike."""

    def __init__(self, dice, size=10, codes=3, blocks=9, steps=6):
        self.dice = dice
        self.size = size
        self.most_blocks = blocks
        self.most_steps = steps
        self.heads = [("main", (), None)]
        for f in range(1, dice.randint(1, codes)):
            ways = tuple(
                dice.choice((("worth", "number"), ("place", "number"))) for _ in range(dice.randint(0, 4)))
            self.heads.append((f"f{f}", ways, dice.choice((None, "number", "truth"))))

    def rows(self):
        codes = tuple(self.code(f) for f in range(len(self.heads)))
        return ("rows", "u", self.size, (), STORES, codes)

    def code(self, f):
        self.f = f
        name, ways, result = self.heads[f]
        self.first = len(ways)
        self.own_worths = [t for t, (way, _) in enumerate(ways) if way == "worth"] + list(range(20, 20 + WORTHS))
        self.own_addresses = [t for t, (way, _) in enumerate(ways) if way == "place"] + list(ADDRESSES)
        many = self.dice.randint(1, self.most_blocks)
        # None stands for an ending that is still to be made
        self.labels = [0] + [self.dice.choice((True, None)) for _ in range(many - 1)]
        endings = []
        at = 0
        while at < len(self.labels):
            endings.append(self.ending(at, many, result))
            at += 1
        blocks = []
        for at, ending in enumerate(endings):
            label = None if self.labels[at] is None else (f, at, ())
            steps = [self.step() for _ in range(self.dice.randint(0, self.most_steps))]
            blocks.append((label, tuple((self.first_steps() if at == 0 else []) + steps), ending))
        return (name, ways, result, SLOTS, tuple(blocks))

    def first_steps(self):
        steps = [("const", t, self.dice.randrange(self.size)) for t in self.own_worths if t >= 20]
        steps += [("clear", i) for i in range(len(SLOTS)) if self.dice.random() < 0.9]
        return steps + [("base", t, self.area()) for t in ADDRESSES]

    def area(self):
        return self.dice.choice((("slot", 0), ("slot", 1), ("store", "s"), ("store", "q")))

    def worth(self):
        return self.dice.choice(self.own_worths)

    def address(self):
        return self.dice.choice(self.own_addresses)

    def step(self):
        dice = self.dice
        word = dice.choice(("copy", "copy", "copy", "const", "not", "nine", "nine", "load", "save", "base", "offset",
                            "index", "check", "divisor", "show", "ask", "copyaddress", "clear"))
        if word == "copyaddress":
            return ("copy", self.address(), self.address())
        if word == "nine":
            return (dice.choice(NINE), self.worth(), self.worth(), self.worth())
        return {
            "copy": ("copy", self.worth(), self.worth()), "const": ("const", self.worth(), dice.randrange(self.size)),
            "not": ("not", self.worth(), self.worth()), "load": ("load", self.worth(), self.address()),
            "save": ("save", self.address(), self.worth()), "base": ("base", self.address(), self.area()),
            "offset": ("offset", self.address(), self.address(), dice.randint(0, 1)),
            "index": ("index", self.address(), self.address(), self.worth(), 1, dice.randint(0, 1)),
            "check": ("check", self.worth(), min(64, dice.randint(self.size // 2, self.size)), S),
            "divisor": ("divisor", self.worth(), S), "show": ("show", dice.randint(0, 5), self.worth(), S),
            "ask": ("ask", self.worth(), S), "clear": ("clear", dice.randrange(len(SLOTS))),
        }[word]

    def new_block(self):
        """The number of a new block with a label."""
        self.labels.append(True)
        return len(self.labels) - 1

    def ending(self, at, many, result):
        dice = self.dice
        word = dice.choice(("jump", "jump", "test", "test", "call", "last", "give", "fail"))
        if len(self.labels) > 30 and word in ("test", "call"):
            word = "give"
        if word == "test":
            return (word, self.worth(), self.new_block(), self.new_block())
        if word in ("call", "last"):
            f = dice.randrange(len(self.heads))
            _, ways, given = self.heads[f]
            args = tuple(self.worth() if way == "worth" else self.address() for way, _ in ways)
            if word == "call":
                temp = None if given is None or dice.random() < 0.2 else self.worth()
                return (word, temp, ("own", f), args, self.new_block())
            word = "last" if given == result else "give"
            if word == "last":
                return (word, ("own", f), args)
        if word == "jump":
            # to one that has a label, or to one further down, so that no ring is without labels
            goals = [b for b in range(1, many) if self.labels[b] is not None or b > at and at < many]
            if goals:
                return (word, dice.choice(goals))
        if word == "fail":
            return (word, dice.randint(0, 9), S)
        return ("give", None if result is None else self.worth())


def make_rows(dice, **more):
    return RowsMaker(dice, **more).rows()
