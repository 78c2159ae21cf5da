"""Blocks of codes: what is reached, what is told from their ends back, and what becomes of goals with other numbers."""

from labelclocks.steps import goals_of, temp_given_last, temps_read_last
from labelclocks.values import has_doubles


def reached_blocks(blocks):
    """For each block whether a row of goals leads to it from block 0."""
    reached = [False] * len(blocks)
    reached[0] = True
    waiting = [0]
    while waiting:
        ending = blocks[waiting.pop()][2]
        for goal in goals_of(ending):
            if not reached[goal]:
                reached[goal] = True
                waiting.append(goal)
    return reached


def goal_counts(blocks):
    """How often each block comes among the goals of all blocks."""
    times = [0] * len(blocks)
    for _, _, ending in blocks:
        for goal in goals_of(ending):
            times[goal] += 1
    return times


def told_backward(blocks, step_back):
    """For each block a dict of True with the temps that later reading tells as it begins, as few as there can be.

    step_back(step, told) makes what is told behind a step what is told ahead of it; the more there is told behind, the
    more there is ahead.
    """
    begins = [{} for _ in blocks]
    ahead = [[] for _ in blocks]
    for at, (_, _, ending) in enumerate(blocks):
        for goal in goals_of(ending):
            ahead[goal].append(at)
    waiting = list(range(len(blocks)))
    while waiting:
        at = waiting.pop()
        told = told_last(blocks[at][2], begins)
        for step in reversed(blocks[at][1]):
            step_back(step, told)
        if len(told) > len(begins[at]):
            begins[at] = told
            waiting.extend(ahead[at])
    return begins


def told_last(ending, begins):
    """What is told ahead of an ending, if this is told as blocks begin."""
    told = {}
    for goal in goals_of(ending):
        for temp in begins[goal]:
            told[temp] = True
    told.pop(temp_given_last(ending), None)
    for temp in temps_read_last(ending):
        told[temp] = True
    return told


def with_goals(ending, numbers):
    """The ending with other goals: numbers has for each goal the one that takes its place."""
    word = ending[0]
    if word == "jump":
        return word, numbers[ending[1]]
    if word == "test":
        return ending[:2] + (numbers[ending[2]], numbers[ending[3]])
    if word == "call":
        return ending[:4] + (numbers[ending[4]],)
    return ending


def kept_blocks(blocks, kept):
    """The blocks that are kept, with new numbers in the old order; kept tells of each one whether it is."""
    numbers = {}
    for at in range(len(blocks)):
        if kept[at]:
            numbers[at] = len(numbers)
    found = []
    for at in numbers:
        label, steps, ending = blocks[at]
        found.append((label, steps, with_goals(ending, numbers)))
    return tuple(found)


def with_blocks(code, blocks):
    """The code with other blocks."""
    return code[:4] + (tuple(blocks),)


def with_codes(rows, codes):
    """The rows with other codes."""
    return rows[:5] + (tuple(codes),)


def has_label_twice(codes):
    """Whether a label stands twice in codes."""
    return has_doubles([block[0] for code in codes for block in code[4] if block[0] is not None])


def step_count(code):
    """How many steps a code has."""
    return sum([len(steps) for _, steps, _ in code[4]])
