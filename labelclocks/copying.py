"""Temps that are alike, and the pass that leaves out copies.

Which temps are alike at a place is kept as a dict from each temp with a source to this source, the least temp that is
alike to it; a temp that is missing there is the least one of those that are alike to it, or alike to itself alone.
"""

from labelclocks.blocks import with_blocks, with_codes
from labelclocks.rows import need_code
from labelclocks.steps import FORMS, READ, goals_of, temp_given, temp_given_last


def sources(rows, f):
    """For each block None if it is not reached, otherwise the dict from the temps with a source to these."""
    need_code(rows, f)
    found = []
    for told in sources_in(rows[5][f][4]):
        found.append(None if told is None else {temp: told[temp] for temp in sorted(told)})
    return found


def sources_in(blocks):
    """As sources, of the blocks of a code; the dicts are in no order."""
    begins = [None] * len(blocks)
    begins[0] = {}
    waiting = [0]
    while waiting:
        at = waiting.pop()
        _, steps, ending = blocks[at]
        told = {temp: begins[at][temp] for temp in begins[at]}
        for step in steps:
            _turn(step, told)
        _part(told, temp_given_last(ending))
        for goal in goals_of(ending):
            # temps only ever cease to be alike at a goal, so this ends at the one way in which most are
            if begins[goal] is None:
                begins[goal] = told
                waiting.append(goal)
            else:
                alike = _alike_in_both(begins[goal], told)
                if len(alike) < len(begins[goal]):
                    begins[goal] = alike
                    waiting.append(goal)
    return begins


def _part(told, temp):
    """Makes a temp alike to itself alone."""
    if temp is None:
        return
    if temp in told:
        told.pop(temp)
        return
    group = [other for other in told if told[other] == temp]
    if group:
        least = min(group)
        told.pop(least)
        for other in group:
            if other != least:
                told[other] = least


def _turn(step, told):
    """Makes what is alike ahead of a step what is alike behind it."""
    temp = temp_given(step)
    if step[0] != "copy":
        _part(told, temp)
        return
    if are_alike(told, temp, step[2]):
        return
    _part(told, temp)
    source = told.get(step[2], step[2])
    if temp > source:
        told[temp] = source
        return
    group = [other for other in told if told[other] == source]
    for other in group:
        told[other] = temp
    told[source] = temp


def are_alike(told, one, other):
    """Whether two temps are alike."""
    return told.get(one, one) == told.get(other, other)


def _alike_in_both(one, other):
    """What is alike by two such dicts."""
    found = {}
    # the least temps of the groups in which temps are alike by both, by the sources that these have in both
    least = {}
    for temp in sorted(set(list(one) + list(one.values()))):
        pair = (one.get(temp, temp), other.get(temp, temp))
        if pair in least:
            found[temp] = least[pair]
        else:
            least[pair] = temp
    return found


def copied(rows):
    """The rows behind the pass ("copies",)."""
    codes = []
    for code in rows[5]:
        blocks = []
        for block, begin in zip(code[4], sources_in(code[4])):
            blocks.append(block if begin is None else _copied_block(block, begin))
        codes.append(with_blocks(code, blocks))
    return with_codes(rows, codes)


def _copied_block(block, begin):
    label, steps, ending = block
    told = {temp: begin[temp] for temp in begin}
    found = []
    for step in steps:
        if step[0] != "copy" or not are_alike(told, step[1], step[2]):
            found.append(_with_sources(step, told))
        _turn(step, told)
    return label, tuple(found), _ending_with_sources(ending, told)


def _with_sources(step, told):
    """The step with sources in the place of the temps that it reads."""
    parts = [step[0]]
    for at, form in enumerate(FORMS[step[0]]):
        part = step[at + 1]
        parts.append(told.get(part, part) if form in READ else part)
    return tuple(parts)


def _ending_with_sources(ending, told):
    word = ending[0]
    if word == "test" or word == "give":
        return (word, told.get(ending[1], ending[1])) + ending[2:]
    if word == "call":
        return ending[:3] + (tuple([told.get(arg, arg) for arg in ending[3]]), ending[4])
    if word == "last":
        return word, ending[1], tuple([told.get(arg, arg) for arg in ending[2]])
    return ending
