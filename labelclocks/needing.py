"""Temps that are needed, and the passes that leave out what is not, and what was asked ahead."""

from labelclocks.blocks import told_backward, told_last, with_blocks, with_codes
from labelclocks.rows import need_code
from labelclocks.steps import temp_given, temps_read

STAYING = ("save", "clear", "check", "divisor", "show", "ask")
# steps that give the same whenever they are asked the same
SAME_WORDS = (
    "plus", "minus", "times", "over", "rest", "less", "same", "and", "or", "not", "base", "offset", "index", "load",
)
EXCHANGED = ("plus", "times", "same", "and", "or")


def needed(rows, f):
    """For each block the ascending list of the temps that are needed as it begins."""
    need_code(rows, f)
    return [sorted(told) for told in needed_in(rows[5][f][4])]


def needed_in(blocks):
    """As needed, of the blocks of a code; for each block a dict of True."""
    return told_backward(blocks, _need)


def _stays(step, told):
    """Whether a step stays, told being needed behind it."""
    return step[0] in STAYING or temp_given(step) in told


def _need(step, told):
    """Makes what is needed behind a step what is needed ahead of it."""
    if _stays(step, told):
        told.pop(temp_given(step), None)
        for temp in temps_read(step):
            told[temp] = True


def without_dead(rows):
    """The rows behind the pass ("dead",)."""
    codes = []
    for code in rows[5]:
        begins = needed_in(code[4])
        blocks = [_without_dead_steps(block, begins) for block in code[4]]
        based = {}
        for _, steps, _ in blocks:
            for step in steps:
                if step[0] == "base":
                    based[step[2]] = True
        codes.append(with_blocks(code, [_without_clears(block, based) for block in blocks]))
    return with_codes(rows, codes)


def _without_dead_steps(block, begins):
    label, steps, ending = block
    told = told_last(ending, begins)
    if ending[0] == "call" and ending[1] not in begins[ending[4]]:
        ending = ("call", None) + ending[2:]
    found = []
    for step in reversed(steps):
        if _stays(step, told):
            found.append(step)
        _need(step, told)
    found.reverse()
    return label, tuple(found), ending


def _without_clears(block, based):
    """The block without the clears of slots of which no base is left; based has the areas of all bases."""
    label, steps, ending = block
    return label, tuple([step for step in steps if step[0] != "clear" or ("slot", step[1]) in based]), ending


def without_twice(rows):
    """The rows behind the pass ("twice",)."""
    codes = []
    for code in rows[5]:
        blocks = [(label, Asked(steps).steps_left(), ending) for label, steps, ending in code[4]]
        codes.append(with_blocks(code, blocks))
    return with_codes(rows, codes)


class Asked:
    """What the steps of a block have asked so far."""

    def __init__(self, steps):
        self.all_steps = steps
        # the index of the last step so far that gives a temp, and of the last save or clear
        self.given_at = {}
        self.changed_at = -1
        # the indexes of the steps that ask something, by what they ask
        self.askers = {}
        # the least many of the checks of a temp, and the temps with a divisor, since they were given
        self.checked = {}
        self.divided = {}

    def steps_left(self):
        """The steps that are left, copies in the place of those that ask the same as an earlier one."""
        found = []
        for at, step in enumerate(self.all_steps):
            left = self.left_of(step)
            if left is not None:
                found.append(left)
            self.go_on(at, step)
        return tuple(found)

    def left_of(self, step):
        """The step, a copy in its place, or None if it is left out."""
        if step[0] == "check":
            return None if self.checked.get(step[1], step[2] + 1) <= step[2] else step
        if step[0] == "divisor":
            return None if step[1] in self.divided else step
        if step[0] not in SAME_WORDS:
            return step
        askers = self.askers.get(_question(step), [])
        # an asker that does not hold any more never will again
        while askers and not self.still_holds(askers[0], step):
            askers.pop(0)
        if not askers:
            return step
        temp = self.all_steps[askers[0]][1]
        return None if temp == step[1] else ("copy", step[1], temp)

    def still_holds(self, at, step):
        """Whether what an earlier step gave is what this one would give."""
        if self.given_at[self.all_steps[at][1]] > at or step[0] == "load" and self.changed_at > at:
            return False
        return all([self.given_at.get(temp, -1) < at for temp in temps_read(step)])

    def go_on(self, at, step):
        """Goes on behind a step, as it was ahead of the pass."""
        temp = temp_given(step)
        if temp is not None:
            self.given_at[temp] = at
            self.checked.pop(temp, None)
            self.divided.pop(temp, None)
        if step[0] == "save" or step[0] == "clear":
            self.changed_at = at
        elif step[0] == "check":
            self.checked[step[1]] = min(step[2], self.checked.get(step[1], step[2]))
        elif step[0] == "divisor":
            self.divided[step[1]] = True
        elif step[0] in SAME_WORDS:
            self.askers.setdefault(_question(step), []).append(at)


def _question(step):
    """What a step asks: its word and the items behind the temp that it gives."""
    if step[0] in EXCHANGED:
        return step[0], min(step[2:]), max(step[2:])
    return step[:1] + step[2:]
