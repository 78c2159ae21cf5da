"""The pass that lays in a call: the code of the callee stands in the place of the call."""

from labelclocks.blocks import has_label_twice, step_count, with_codes
from labelclocks.codelabels import MOST_MARKS
from labelclocks.errors import NotHere, TooLarge
from labelclocks.loose import MOST_BLOCKS, MOST_SLOTS, MOST_STEPS, MOST_TEMP
from labelclocks.steps import FORMS, GIVEN, READ, temp_given, temp_given_last, temps_read, temps_read_last


def laid_in(rows, reading, label):
    """The rows and the reading behind the pass ("lay", label)."""
    found = _call_with_back(rows, label)
    if found is None:
        raise NotHere("no call of an own code has this way back")
    c, at = found
    called = rows[5][c][4][at][2][2][1]
    if [block for block in rows[5][called][4] if block[2][0] == "last"]:
        raise NotHere("the callee calls in last place")
    f, k, way = label
    ahead = way + (("at", f, k),)
    parts = tuple([_with_copies(labels, called, ahead) for labels in reading])
    _need_room(rows, c, at, ahead, parts)
    codes = list(rows[5])
    codes[c] = Layer(rows[5][c], at, rows[5][called], ahead).code_behind()
    if has_label_twice(codes):
        # so the labels were not made by passes
        raise NotHere("a label would stand twice")
    laid, peeled, last = parts
    return with_codes(rows, codes), (tuple(sorted(set(laid + (label,)))), peeled, last)


def _call_with_back(rows, label):
    """The code and block with the call of an own code whose goal has a label, None if there is none."""
    for c, code in enumerate(rows[5]):
        for at, (_, _, ending) in enumerate(code[4]):
            if ending[0] == "call" and ending[2][0] == "own" and code[4][ending[4]][0] == label:
                return c, at
    return None


def function_of(label):
    """The function in whose code a label stands that a reading names."""
    for mark in label[2]:
        if mark[0] == "at":
            return mark[1]
    return label[0]


def _with_copies(labels, f, ahead):
    """The labels, and those of the code f also as its copy writes them."""
    copies = [(g, k, ahead + way) for g, k, way in labels if function_of((g, k, way)) == f]
    return tuple(sorted(set(list(labels) + copies)))


def temp_bound(code):
    """One plus the greatest temp of a code, its params too."""
    temps = list(range(len(code[1])))
    for _, steps, ending in code[4]:
        for step in steps:
            temps.extend(temps_read(step))
            if temp_given(step) is not None:
                temps.append(temp_given(step))
        temps.extend(temps_read_last(ending))
        if temp_given_last(ending) is not None:
            temps.append(temp_given_last(ending))
    return max(temps, default=-1) + 1


def _need_room(rows, c, at, ahead, parts):
    """Raises TooLarge if the code with the call, or a way, would be too large."""
    code = rows[5][c]
    _, temp, callee, passed, _ = code[4][at][2]
    other = rows[5][callee[1]]
    steps = step_count(code) + step_count(other) + len(passed)
    if temp is not None:
        steps += len([block for block in other[4] if block[2][0] == "give"])
    if len(code[4]) + len(other[4]) + 1 > MOST_BLOCKS or steps > MOST_STEPS:
        raise TooLarge("too many blocks or steps")
    if len(code[3]) + len(other[3]) > MOST_SLOTS or temp_bound(code) + temp_bound(other) > MOST_TEMP + 1:
        raise TooLarge("too many slots or temps")
    ways = [ahead + block[0][2] for block in other[4] if block[0] is not None]
    ways += [label[2] for labels in parts for label in labels]
    if max([len(way) for way in ways]) > MOST_MARKS:
        raise TooLarge("too long ways")


class Layer:
    """Lays the blocks of another code into a code, in the place of a call; all their numbers grow."""

    def __init__(self, code, at, other, ahead):
        self.code_with_call = code
        self.at = at
        self.other = other
        self.ahead = ahead
        self.first_block = len(code[4])
        self.first_slot = len(code[3])
        self.first_temp = temp_bound(code)

    def code_behind(self):
        """The code behind the pass."""
        name, params, result, slots, blocks = self.code_with_call
        label, steps, ending = blocks[self.at]
        copies = [("copy", self.first_temp + param, arg) for param, arg in enumerate(ending[3])]
        found = list(blocks)
        found[self.at] = (label, steps + tuple(copies), ("jump", self.first_block))
        found.extend([self.block_copy(block, ending) for block in self.other[4]])
        return name, params, result, slots + self.other[3], tuple(found)

    def block_copy(self, block, call):
        """The copy of a block."""
        label, steps, ending = block
        copies = [self.step_copy(step) for step in steps]
        if ending[0] == "give" and call[1] is not None:
            copies.append(("copy", call[1], self.first_temp + ending[1]))
        written = None if label is None else (label[0], label[1], self.ahead + label[2])
        return written, tuple(copies), self.ending_copy(ending, call[4])

    def step_copy(self, step):
        """The copy of a step."""
        if step[0] == "clear":
            return "clear", self.first_slot + step[1]
        parts = [step[0]]
        for at, form in enumerate(FORMS[step[0]]):
            part = step[at + 1]
            if form in GIVEN or form in READ:
                part += self.first_temp
            elif form == "area" and part[0] == "slot":
                part = ("slot", self.first_slot + part[1])
            parts.append(part)
        return tuple(parts)

    def ending_copy(self, ending, goal):
        """The copy of an ending; goal is that of the call."""
        word = ending[0]
        if word == "jump":
            return word, self.first_block + ending[1]
        if word == "test":
            return word, self.first_temp + ending[1], self.first_block + ending[2], self.first_block + ending[3]
        if word == "give":
            return "jump", goal
        if word == "call":
            temp = None if ending[1] is None else self.first_temp + ending[1]
            passed = tuple([self.first_temp + arg for arg in ending[3]])
            return word, temp, ending[2], passed, self.first_block + ending[4]
        return ending
