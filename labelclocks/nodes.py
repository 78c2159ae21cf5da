"""The nodes of right bodies in reading order, with their paths."""

# at which indexes of a node's tuple its parts stand, where these are single nodes
PARTS = {
    "put": (1, 2), "show": (2,), "ask": (1,), "read": (1,), "not": (1,), "plus": (1, 2), "minus": (1, 2),
    "times": (1, 2), "over": (1, 2), "rest": (1, 2), "less": (1, 2), "same": (1, 2), "and": (1, 2), "or": (1, 2),
    "field": (1,), "item": (1, 2),
}


def parts_of(node):
    """The pairs (the end of the path, part) of a node's parts, in reading order."""
    word = node[0]
    if word == "call":
        target = [] if node[1] is None else [((1,), node[1])]
        return target + _inside(node, 3)
    if word == "if":
        return [((1,), node[1])] + _inside(node, 2) + _inside(node, 3)
    if word == "while":
        return [((1,), node[1])] + _inside(node, 2)
    if word == "give":
        return [] if node[1] is None else [((1,), node[1])]
    return [((at,), node[at]) for at in PARTS.get(word, ())]


def _inside(node, at):
    """The nodes in a body or in args."""
    return [((at, k), part) for k, part in enumerate(node[at])]


def nodes_of(body):
    """The pairs (path, node) of all nodes of a body, in reading order."""
    found = []
    for at, statement in enumerate(body):
        _add_nodes((at,), statement, found)
    return found


def _add_nodes(path, node, found):
    found.append((path, node))
    for end, part in parts_of(node):
        _add_nodes(path + end, part, found)


def node_count(body):
    """How many nodes a body has."""
    return len(nodes_of(body))


def height_of(node):
    """How many nodes of this one lie one in another, itself too."""
    return 1 + max([height_of(part) for _, part in parts_of(node)], default=0)
