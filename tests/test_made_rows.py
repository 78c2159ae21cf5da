"""[34], [35]: sorts, rings and lacking temps of codes made by dice, against trying all there is."""

import itertools
import unittest

from labelclocks.given import lacking, unmarked
from labelclocks.loose import is_loose
from labelclocks.rows import is_rows
from tests.makers import dice_of

TEMPS = 5
S = (0, 0)
HEADS = (
    ("h", (("worth", "number"), ("place", "number")), "number", (), (((1, 0, ()), (), ("give", 0)),)),
    ("k", (), None, (), (((2, 0, ()), (), ("give", None)),)),
)
# temps of steps by their places: w and a are read as worth and address, W and A given so, c and C are a copy's
STEPS = {
    "const": "W", "copy": "Cc", "not": "Ww", "plus": "Www", "base": "A", "offset": "Aa", "index": "Aaw", "load": "Wa",
    "save": "aw", "clear": "", "check": "w", "divisor": "w", "ask": "W", "show": "w",
}


def make_step(dice, words):
    word = dice.choice(words)
    temps = [dice.randrange(TEMPS) for _ in STEPS[word]]
    behind = {
        "const": (1,), "base": (("slot", 0),), "offset": (1,), "index": (1, 0), "check": (3, S), "divisor": (S,),
        "ask": (S,), "show": (S,)}.get(word, ())
    if word == "clear":
        return ("clear", 0)
    if word == "show":
        return ("show", 0, temps[0], S)
    return (word,) + tuple(temps) + behind


def make_ending(dice, many):
    word = dice.choice(("jump", "jump", "test", "call", "give", "fail"))
    goal, other = dice.randrange(many), dice.randrange(many)
    a, b, t = (dice.randrange(TEMPS) for _ in range(3))
    return {
        "jump": ("jump", goal), "test": ("test", a, goal, other), "give": ("give", None), "fail": ("fail", 1, S),
        "call": ("call", t, ("own", 1), (a, b), goal) if dice.random() < 0.5 else ("call", None, ("own", 2), (), goal),
    }[word]


def make_code(dice, words, labelled):
    many = dice.randint(1, 5)
    blocks = []
    for at in range(many):
        steps = tuple(make_step(dice, words) for _ in range(dice.randint(0, 3)))
        label = (0, at, ()) if dice.random() < labelled else None
        blocks.append((label, steps, make_ending(dice, many)))
    params = tuple(dice.choice((("worth", "number"), ("place", "number"))) for _ in range(dice.randint(0, 2)))
    return ("f", params, None, (1,), tuple(blocks))


def rows_with(code):
    return ("rows", "u", 10, (), (), (code,) + HEADS)


def temps_of(step):
    """The pairs (letter, temp) of a step."""
    first = 2 if step[0] == "show" else 1
    return list(zip(STEPS[step[0]], step[first:first + len(STEPS[step[0]])]))


def last_temps(ending):
    if ending[0] == "test":
        return [("w", ending[1])]
    if ending[0] == "call":
        return list(zip("wa", ending[3])) + ([("W", ending[1])] if ending[1] is not None else [])
    return []


def fits(code, sorts):
    """Whether a way to call each temp w or a is one that [34] lets be."""
    for at, (way, _) in enumerate(code[1]):
        if sorts[at] != ("w" if way == "worth" else "a"):
            return False
    for _, steps, ending in code[4]:
        told = last_temps(ending)
        for step in steps:
            if step[0] == "copy":
                if sorts[step[1]] != sorts[step[2]]:
                    return False
            else:
                told += temps_of(step)
        if any(sorts[temp] != letter.lower() for letter, temp in told):
            return False
    return True


def goals(ending):
    return {"jump": ending[1:2], "test": ending[2:4], "call": ending[4:5]}.get(ending[0], ())


def lacks(code):
    """The temps that are read on some road without being given, by trying all that can be given at a block."""
    found = set()
    start = (0, frozenset(range(len(code[1]))))
    met, waiting = {start}, [start]
    while waiting:
        block, given = waiting.pop()
        given = set(given)
        _, steps, ending = code[4][block]
        for told in [temps_of(step) for step in steps] + [last_temps(ending)]:
            found.update(temp for letter, temp in told if letter.islower() and temp not in given)
            given.update(temp for letter, temp in told if letter.isupper())
        for goal in goals(ending):
            state = (goal, frozenset(given))
            if state not in met:
                met.add(state)
                waiting.append(state)
    return found


def has_ring(code):
    bare = [at for at, block in enumerate(code[4]) if block[0] is None]
    for _ in code[4]:
        bare = [at for at in bare if any(goal in bare for goal in goals(code[4][at][2]))]
    return bool(bare)


class MadeRowsTest(unittest.TestCase):

    def test_sorts(self):
        found = {True: 0, False: 0}
        for seed in range(3000):
            dice = dice_of(seed)
            words = dice.sample(sorted(STEPS), 5) + ["copy"]
            code = make_code(dice, words, 0.5)
            told = any(fits(code, sorts) for sorts in itertools.product("wa", repeat=TEMPS))
            found[told] += 1
            self.assertIs(is_loose(rows_with(code)), told, code)
        self.assertGreater(min(found.values()), 300)

    def loose_codes(self, labelled):
        words = ["const", "not", "plus", "check", "show", "copy", "ask"]
        for seed in range(3000):
            code = make_code(dice_of(seed), words, labelled)
            if is_loose(rows_with(code)):
                yield code

    def test_lacking(self):
        found = {True: 0, False: 0}
        for code in self.loose_codes(0.5):
            told = lacks(code)
            answer = lacking(rows_with(code), 0)
            found[bool(told)] += 1
            self.assertEqual(answer is None, not told, code)
            if answer is not None:
                self.ask_road(code, told, *answer)
        self.assertGreater(min(found.values()), 100)

    def ask_road(self, code, told, temp, road):
        self.assertIn(temp, told)
        self.assertEqual(road[0], 0)
        for one, other in zip(road, road[1:]):
            self.assertIn(other, goals(code[4][one][2]))
        # the road itself, as if it were the whole code, lacks the temp in its last block
        straight = []
        for at, block in enumerate(road):
            label, steps, ending = code[4][block]
            self.assertTrue(at == len(road) - 1 or ("W", temp) not in last_temps(ending))
            straight += [temps_of(step) for step in steps]
            if at == len(road) - 1:
                straight.append([pair for pair in last_temps(ending) if pair[0].islower()])
        given = False
        for part in straight[:-1]:
            if any(letter.islower() and one == temp for letter, one in part) and not given:
                return
            given = given or any(letter.isupper() and one == temp for letter, one in part)
        self.assertFalse(given)
        self.assertIn(temp, [one for _, one in straight[-1]])

    def test_unmarked(self):
        found = {True: 0, False: 0}
        for code in self.loose_codes(0.3):
            ring = unmarked(rows_with(code), 0)
            found[ring is not None] += 1
            self.assertEqual(ring is not None, has_ring(code), code)
            if ring is not None:
                self.assertEqual(len(set(ring)), len(ring))
                for one, other in zip(ring, ring[1:] + ring[:1]):
                    self.assertIsNone(code[4][one][0])
                    self.assertIn(other, goals(code[4][one][2]))
        self.assertGreater(min(found.values()), 100)

    def test_rows(self):
        found = {True: 0, False: 0}
        for code in self.loose_codes(0.9):
            blocks = code[4]
            all_goals = [goal for block in blocks for goal in goals(block[2])]
            told = blocks[0][0] is not None and 0 not in all_goals and not lacks(code) and not has_ring(code)
            for block in blocks:
                if block[2][0] in ("test", "call"):
                    for goal in goals(block[2]):
                        told = told and blocks[goal][0] is not None and all_goals.count(goal) == 1
            found[told] += 1
            self.assertIs(is_rows(rows_with(code)), told, code)
        self.assertGreater(min(found.values()), 30)
