"""Makes images of placed rows, and asks whether code is led; only for tests, after [67] and [68]."""


def link(all_rows, placings, registers, room=2000, order=None):
    """The image of rows whose codes have these placings: for each rows the list of pairs (cells, frame)."""
    order = list(range(len(all_rows))) if order is None else order
    starts, at = {}, 2
    for u in order:
        for f, (cells, _) in enumerate(placings[u]):
            starts[u, f] = at
            at += len(cells)
    points, words = {}, 0
    for u in order:
        for x, many in all_rows[u][4]:
            points[u, x] = words
            words += many
    made = [("call", starts[0, [code[0] for code in all_rows[0][5]].index("main")], 0), ("halt",)]
    for u in order:
        for f, (cells, _) in enumerate(placings[u]):
            made += [linked_cell(all_rows, u, starts[u, f], cell, starts, points) for cell in cells]
    return ("image", all_rows[0][2], registers, words, room, tuple(made))


def linked_cell(all_rows, u, first, cell, starts, points):
    name, uses = all_rows[u][1], all_rows[u][3]
    word = cell[0]
    if word == "mark":
        return (word, name, cell[1])
    if word == "store":
        return ("point", cell[1], points[u, cell[2]])
    if word in ("jump", "unless"):
        return cell[:-1] + (first + cell[-1],)
    if word in ("call", "last"):
        kind, i = cell[1]
        goal = starts[u, i] if kind == "own" else None
        for v, rows in enumerate(all_rows):
            for g, code in enumerate(rows[5]):
                if kind == "use" and (rows[1], code[0]) == uses[i][:2]:
                    goal = starts[v, g]
        return (word, goal) + cell[2:]
    if word in ("check", "divisor", "show", "ask", "fail"):
        return cell[:-1] + ((name,) + cell[-1],)
    return cell


def is_led(cells):
    """Whether the code of a function is led."""
    ways = {at: ways_behind(cells, at) for at in range(len(cells))}
    if any(goal >= len(cells) for goals in ways.values() for goal in goals):
        return False
    into = {at: [] for at in ways}
    for at in ways:
        for goal in ways[at]:
            into[goal].append(at)
    if into[0] or into[1] != [0]:
        return False
    for at, cell in enumerate(cells):
        if cell[0] == "unless" and cell[2] == at + 1:
            return False
        if cell[0] in ("unless", "call"):
            for goal in ways[at]:
                ahead = at
                while cells[goal][0] == "jump" and into[goal] == [ahead]:
                    ahead, goal = goal, cells[goal][1]
                if cells[goal][0] != "mark" or into[goal] != [ahead]:
                    return False
    return not has_bare_ring(cells, ways)


def ways_behind(cells, at):
    word = cells[at][0]
    if word == "jump":
        return [cells[at][1]]
    if word == "unless":
        return [at + 1, cells[at][2]]
    return [] if word in ("last", "return", "fail") else [at + 1]


def has_bare_ring(cells, ways):
    """Whether a way of cells comes round without a mark."""
    bare = [at for at in ways if cells[at][0] != "mark"]
    many = {at: len([goal for goal in ways[at] if cells[goal][0] != "mark"]) for at in bare}
    into = {at: [] for at in bare}
    for at in bare:
        for goal in ways[at]:
            if cells[goal][0] != "mark":
                into[goal].append(at)
    free = [at for at in bare if many[at] == 0]
    for at in free:
        for one in into[at]:
            many[one] -= 1
            if many[one] == 0:
                free.append(one)
    return len(free) < len(bare)
