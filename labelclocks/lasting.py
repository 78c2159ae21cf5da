"""The pass that makes calls in last place take the place of their callers."""

from labelclocks.blocks import kept_blocks, with_blocks, with_codes
from labelclocks.errors import NotHere
from labelclocks.steps import code_head, temp_given_last

ADDRESS_WORDS = ("copy", "offset", "index")


def called_last(rows, reading):
    """The rows and the reading behind the pass ("last",)."""
    codes = []
    backs = ()
    for code in rows[5]:
        blocks, labels = _with_lasts(rows, code)
        codes.append(with_blocks(code, blocks))
        backs += tuple(labels)
    if not backs:
        raise NotHere("no call in last place")
    laid, peeled, last = reading
    return with_codes(rows, codes), (laid, peeled, tuple(sorted(set(last + backs))))


def _with_lasts(rows, code):
    """The pair of the blocks of a code behind the pass and the labels of the goals that it left out."""
    own = _own_addresses(code)
    found = []
    kept = [True] * len(code[4])
    labels = []
    for label, steps, ending in code[4]:
        if ending[0] == "call" and _is_in_last_place(rows, code, ending, own):
            kept[ending[4]] = False
            labels.append(code[4][ending[4]][0])
            ending = ("last", ending[2], ending[3])
        found.append((label, steps, ending))
    return kept_blocks(found, kept), labels


def _own_addresses(code):
    """A dict with the temps that may hold an address of a slot of the code."""
    own = {}
    # the temps that get an address of another one, by this one
    handed = {}
    for _, steps, _ in code[4]:
        for step in steps:
            if step[0] == "base" and step[2][0] == "slot":
                own[step[1]] = True
            elif step[0] in ADDRESS_WORDS:
                handed.setdefault(step[2], []).append(step[1])
    waiting = list(own)
    while waiting:
        temp = waiting.pop()
        for other in handed.get(temp, []):
            if other not in own:
                own[other] = True
                waiting.append(other)
    return own


def _is_in_last_place(rows, code, ending, own):
    """Whether the call that is an ending of a code is in last place."""
    _, _, callee, passed, goal = ending
    if code_head(rows, callee)[1] != code[2] or [arg for arg in passed if arg in own]:
        return False
    _, steps, given = code[4][goal]
    if given[0] != "give" or [step for step in steps if step[0] != "copy"]:
        return False
    return given[1] is None or given[1] in _holders(temp_given_last(ending), steps)


def _holders(temp, copies):
    """A dict with the temps that hold behind some copies what a temp held ahead of them."""
    holders = {}
    if temp is not None:
        holders[temp] = True
    for _, to, source in copies:
        if source in holders:
            holders[to] = True
        else:
            holders.pop(to, None)
    return holders
