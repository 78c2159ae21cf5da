"""Numbers that temps are known to be, and the pass that folds by them."""

from labelclocks.blocks import with_blocks, with_codes
from labelclocks.loose import MOST_AREA
from labelclocks.rows import need_code
from labelclocks.signs import DIVIDING, NINE, joined
from labelclocks.steps import goals_of, temp_given, temp_given_last


def known(rows, f):
    """For each block None if it is not met, otherwise the dict from the temps known as it begins to their numbers."""
    need_code(rows, f)
    found = []
    for told in known_in(rows[2], rows[5][f][4]):
        found.append(None if told is None else {temp: told[temp] for temp in sorted(told)})
    return found


def known_in(size, blocks):
    """As known, of the blocks of a code; the dicts are in no order."""
    begins = [None] * len(blocks)
    begins[0] = {}
    waiting = [0]
    while waiting:
        at = waiting.pop()
        ways = _told_ahead(size, blocks[at], begins[at])
        for goal, told in ways:
            # what is known at a goal only ever becomes less, so this ends at the one way in which most is known
            if begins[goal] is None:
                begins[goal] = told
                waiting.append(goal)
            else:
                alike = {temp: told[temp] for temp in told if begins[goal].get(temp) == told[temp]}
                if len(alike) < len(begins[goal]):
                    begins[goal] = alike
                    waiting.append(goal)
    return begins


def _told_ahead(size, block, begin):
    """The pairs (goal, what is known there) to which a met block goes on."""
    _, steps, ending = block
    told = {temp: begin[temp] for temp in begin}
    for step in steps:
        _learn(size, step, told)
    goals = goals_of(ending)
    if ending[0] != "test":
        told.pop(temp_given_last(ending), None)
        return [(goal, told) for goal in goals]
    if ending[1] in told:
        return [(goals[int(told[ending[1]] == 0)], told)]
    refused = {temp: told[temp] for temp in told}
    refused[ending[1]] = 0
    return [(goals[0], told), (goals[1], refused)]


def number_made(size, step, told):
    """The number that a step makes of known ones, None if it is not known."""
    word = step[0]
    if word == "const":
        return step[2]
    if word == "copy":
        return told.get(step[2])
    if word == "not":
        return int(told[step[2]] == 0) if step[2] in told else None
    if word not in NINE or step[2] not in told or step[3] not in told:
        return None
    if word in DIVIDING and told[step[3]] == 0:
        return None
    return joined(word, told[step[2]], told[step[3]]) % size


def _learn(size, step, told):
    """Makes what is known ahead of a step what is known behind it."""
    temp = temp_given(step)
    number = number_made(size, step, told)
    if number is not None:
        told[temp] = number
    elif temp is not None:
        told.pop(temp, None)


def folded(rows):
    """The rows behind the pass ("fold",)."""
    codes = []
    for code in rows[5]:
        begins = known_in(rows[2], code[4])
        blocks = []
        for block, begin in zip(code[4], begins):
            blocks.append(block if begin is None else _folded_block(rows[2], block, begin))
        codes.append(with_blocks(code, blocks))
    return with_codes(rows, codes)


def _folded_block(size, block, begin):
    label, steps, ending = block
    told = {temp: begin[temp] for temp in begin}
    found = []
    for step in steps:
        if not _is_idle(step, told):
            found.append(_folded_step(size, step, told))
        _learn(size, step, told)
    if ending[0] == "test" and ending[1] in told:
        ending = ("jump", ending[3] if told[ending[1]] == 0 else ending[2])
    return label, tuple(found), ending


def _is_idle(step, told):
    """Whether a step is a check or divisor that lets known numbers through."""
    if step[0] == "check":
        return step[1] in told and told[step[1]] < step[2]
    return step[0] == "divisor" and told.get(step[1], 0) != 0


def _folded_step(size, step, told):
    number = number_made(size, step, told)
    if number is not None:
        return "const", step[1], number
    if step[0] == "index" and step[3] in told:
        offset = told[step[3]] * step[4] + step[5]
        if offset <= MOST_AREA:
            return "offset", step[1], step[2], offset
    return step
