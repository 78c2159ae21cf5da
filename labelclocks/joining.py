"""The pass that joins blocks which come one behind another without need."""

from labelclocks.blocks import goal_counts, kept_blocks, reached_blocks, with_blocks, with_codes, with_goals


def threaded(rows):
    """The rows behind the pass ("thread",)."""
    return with_codes(rows, [with_blocks(code, _threaded_blocks(code[4])) for code in rows[5]])


def _threaded_blocks(blocks):
    """The blocks of a code behind the pass."""
    ends = [_end_of_jumps(blocks, at) for at in range(len(blocks))]
    straight = [(label, steps, with_goals(ending, ends)) for label, steps, ending in blocks]
    return _joined_blocks(kept_blocks(straight, reached_blocks(straight)))


def _end_of_jumps(blocks, at):
    """Where one comes to from a block on, by blocks that do nothing but jump; rows have no rings of these."""
    while blocks[at][0] is None and not blocks[at][1] and blocks[at][2][0] == "jump":
        at = blocks[at][2][1]
    return at


def _joined_blocks(blocks):
    """All blocks but those that are joined to the one ahead of them."""
    times = goal_counts(blocks)
    found = []
    kept = [True] * len(blocks)
    for _, _, ending in blocks:
        if ending[0] == "jump" and _is_joined(blocks, times, ending[1]):
            kept[ending[1]] = False
    for at, (label, steps, ending) in enumerate(blocks):
        parts = list(steps)
        while kept[at] and ending[0] == "jump" and not kept[ending[1]]:
            _, more, ending = blocks[ending[1]]
            parts.extend(more)
        found.append((label, tuple(parts), ending))
    return kept_blocks(found, kept)


def _is_joined(blocks, times, at):
    """Whether a block that is the goal of a jump is joined to the block with this jump."""
    return blocks[at][0] is None and times[at] == 1
