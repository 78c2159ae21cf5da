"""Where the cells of a function's code lead, data left out, and as if each call came back."""

# behind these cells nothing of the same code comes
LAST_WORDS = ("last", "return", "fail")


def ways_behind(cells, at):
    """The indexes to which the cell at an index leads; the number of the cells for a way beyond the last one."""
    word = cells[at][0]
    if word == "jump":
        return [cells[at][1]]
    if word == "unless":
        return [at + 1, cells[at][2]]
    return [] if word in LAST_WORDS else [at + 1]


def reached_cells(cells):
    """For each cell whether the first one leads to it."""
    reached = [False] * len(cells)
    reached[0] = True
    waiting = [0]
    while waiting:
        for goal in ways_behind(cells, waiting.pop()):
            if goal < len(cells) and not reached[goal]:
                reached[goal] = True
                waiting.append(goal)
    return reached
