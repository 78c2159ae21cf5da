"""The pass that takes off the first round of a loop, so that its labels tell it from the later ones.

The new blocks are the old ones together with what is known of the loop as they are come to: FRESH as long as no round
was met since it was begun, IN_FIRST from its first round on, IN_LATER from its second one on. What stands without a
label is there once for all that goes on alike.
"""

from labelclocks.blocks import has_label_twice, step_count, with_blocks, with_codes, with_goals
from labelclocks.codelabels import MOST_MARKS
from labelclocks.errors import NotHere, TooLarge
from labelclocks.reading import FIRST, LATER, is_round
from labelclocks.rows import are_goals_right
from labelclocks.steps import goals_of

MOST_PEELED_BLOCKS = 133
MOST_PEELED_STEPS = 2666
FRESH = 0
IN_FIRST = 1
IN_LATER = 2


def peeled_off(rows, roads, reading, label):
    """The rows and the reading behind the pass ("peel", label)."""
    f, turn, way = label
    c = _code_with(rows, label)
    if c is None or not is_round(roads, f, turn) or way[-1:] in ((("first", f, turn),), (("later", f, turn),)):
        raise NotHere("no round that can be told from later ones")
    loop = Loop(roads, label)
    inside = [block[0] for block in rows[5][c][4] if block[0] is not None]
    inside = [told for told in inside + [told for part in reading for told in part] if loop.is_inside(told)]
    code = rows[5][c]
    if len(code[4]) > MOST_PEELED_BLOCKS or step_count(code) > MOST_PEELED_STEPS:
        raise TooLarge("too many blocks or steps")
    if max([len(told[2]) for told in inside]) >= MOST_MARKS:
        raise TooLarge("too long ways")
    codes = list(rows[5])
    codes[c] = with_blocks(code, Peeler(code[4], loop).new_blocks())
    if not are_goals_right(codes[c]) or has_label_twice(codes):
        # so the labels were not made by passes
        raise NotHere("no code of this loop")
    laid, peeled, last = [loop.both_written(part) for part in reading]
    return with_codes(rows, codes), (laid, tuple(sorted(set(peeled + (label,)))), last)


def _code_with(rows, label):
    """The number of the code in which a label stands, None if there is none."""
    for c, code in enumerate(rows[5]):
        if [block for block in code[4] if block[0] == label]:
            return c
    return None


class Loop:
    """A loop of a function at a way."""

    def __init__(self, roads, label):
        self.roads = roads
        self.turn = label
        self.out = (label[0], label[1] + 1, label[2])

    def is_inside(self, label):
        """Whether a code label stands in the loop."""
        f, turn, way = self.turn
        g, k, told = label
        if told[:len(way)] != way:
            return False
        for mark in reversed(told[len(way):]):
            if mark[0] == "at":
                g, k = mark[1:]
        return g == f and k < len(self.roads[f]) and turn in self.roads[f][k][2]

    def with_mark(self, label, word):
        """A label with a mark of the loop that bears this word."""
        ahead = len(self.turn[2])
        f, k, way = label
        return f, k, way[:ahead] + ((word,) + self.turn[:2],) + way[ahead:]

    def both_written(self, labels):
        """The labels of a reading, those inside with both marks in the place of themselves."""
        found = []
        for label in labels:
            if self.is_inside(label) and label != self.turn:
                found.extend([self.with_mark(label, FIRST), self.with_mark(label, LATER)])
            else:
                found.append(label)
        return tuple(sorted(set(found)))

    def met(self, label, state):
        """The pair of what a label is written as that is come to in a state, and the state behind it."""
        if label == self.turn:
            state = IN_FIRST if state == FRESH else IN_LATER
        elif label == self.out:
            return self.with_mark(label, FIRST if state == FRESH else LATER), FRESH
        elif not self.is_inside(label):
            return label, FRESH
        elif state == FRESH:
            raise NotHere("the loop is come to without a round")
        return self.with_mark(label, FIRST if state == IN_FIRST else LATER), state


class Peeler:
    """Makes the blocks of a code behind the pass."""

    def __init__(self, blocks, loop):
        self.old = blocks
        self.loop = loop
        # the new blocks, from their numbers on; those of labels are filled in later
        self.found = []
        # the numbers of new blocks by written labels, by old blocks and states, and by old blocks and goals
        self.labelled = {}
        self.bare = {}
        self.alike = {}
        # the pairs (number, old block, state behind its label) that are still to be filled in
        self.waiting = []

    def new_blocks(self):
        """The new blocks."""
        self.number(0, FRESH)
        # the numbers of the new blocks of labels by old blocks and goals
        groups = {}
        while self.waiting:
            at, old, state = self.waiting.pop()
            label, steps, ending = self.old[old]
            label = self.found[at][0]
            goals = {goal: self.number(goal, state) for goal in goals_of(ending)}
            self.found[at] = (label, steps, with_goals(ending, goals))
            if ending[0] == "test" or ending[0] == "call":
                groups.setdefault((old,) + tuple([goals[goal] for goal in goals]), []).append(at)
        for group in list(groups.values()):
            if len(group) > 1:
                self.share(group)
        return self.found

    def number(self, old, state):
        """The number of the new block for an old one that is come to in a state."""
        label, steps, ending = self.old[old]
        if label is not None:
            written, state = self.loop.met(label, state)
            if written not in self.labelled:
                self.labelled[written] = len(self.found)
                self.waiting.append((len(self.found), old, state))
                self.found.append((written, (), None))
            return self.labelled[written]
        if (old, state) not in self.bare:
            goals = {}
            for goal in goals_of(ending):
                goals[goal] = self.number(goal, state)
            key = (old,) + tuple([goals[goal] for goal in goals])
            if key not in self.alike:
                self.alike[key] = len(self.found)
                self.found.append((None, steps, with_goals(ending, goals)))
            self.bare[(old, state)] = self.alike[key]
        return self.bare[(old, state)]

    def share(self, group):
        """Gives new blocks with the same steps and goals one ending, as their goals may be come to just once."""
        _, steps, ending = self.found[group[0]]
        for at in group:
            self.found[at] = (self.found[at][0], (), ("jump", len(self.found)))
        self.found.append((None, steps, ending))
