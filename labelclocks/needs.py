"""How much room the calls of linked objects need."""

from labelclocks.actions import LINK_WORDS, ROOM_BEHIND
from labelclocks.cellways import reached_cells
from labelclocks.errors import BadChain
from labelclocks.objectlists import callee_met, main_of, need_joined, need_objects
from labelclocks.values import is_list, is_tuple_of, is_whole

CALL = "call"
CALL_WORDS = ("call", "last")


def needed(objects, main):
    """The most room that a chain of calls needs, or a ring of calls that needs more each time."""
    need_objects(objects)
    need_joined(objects, main)
    plan = CallPlan(objects, main)
    ring = plan.growing_ring()
    if ring is not None:
        return ("grows",) + ring
    return plan.deepest()


def depth_of(objects, main, chain):
    """The room that a chain of calls needs."""
    need_objects(objects)
    need_joined(objects, main)
    plan = CallPlan(objects, main)
    if not plan.is_chain(chain):
        raise BadChain("no chain")
    stack = LINK_WORDS
    for link, further in zip(chain, chain[1:]):
        stack += plan.growth(link[1:], further[0])
    return stack + plan.frame_words[chain[-1][1:]] + ROOM_BEHIND


class CallPlan:
    """Which functions call which; a function is a pair (unit, f), a link a triple (word, unit, f)."""

    def __init__(self, objects, main):
        self.frame_words = {}
        # by functions, the ascending list of the links behind them
        self.links = {}
        for u, thing in enumerate(objects):
            for f, function in enumerate(thing[6]):
                self.frame_words[(thing[1], f)] = function[3]
                self.links[(thing[1], f)] = _links(objects, u, f)
        self.first = (CALL, main, main_of(objects, main)[1])

    def is_chain(self, value):
        """Whether any value is a chain."""
        if not is_list(value) or not value or not all([self.is_link(link) for link in value]):
            return False
        if value[0] != self.first:
            return False
        return all([further in self.links[link[1:]] for link, further in zip(value, value[1:])])

    def is_link(self, value):
        """Whether any value is a link to a function."""
        if not is_tuple_of(value, 3) or not isinstance(value[0], str) or not isinstance(value[1], str):
            return False
        # True and False would be keys as wholes are
        return is_whole(value[2]) and value[1:] in self.frame_words

    def growth(self, function, word):
        """How much the stack grows when a function calls by a word."""
        return self.frame_words[function] + LINK_WORDS if word == CALL else 0

    def ways_from(self, link):
        """The dict from the functions to which calls lead from a link to a shortest list of links from it to there."""
        ways = {link[1:]: [link]}
        waiting = [link[1:]]
        done = 0
        while done < len(waiting):
            function = waiting[done]
            for further in self.links[function]:
                if further[1:] not in ways:
                    ways[further[1:]] = ways[function] + [further]
                    waiting.append(further[1:])
            done += 1
        return ways

    def growing_ring(self):
        """The pair of a chain and a ring with a call behind its last link, None if there is none."""
        ways = self.ways_from(self.first)
        for function in ways:
            for link in self.links[function]:
                back = self.ways_from(link)
                if link[0] == CALL and function in back:
                    return ways[function], [ways[function][-1]] + back[function]
        return None

    def deepest(self):
        """The triple of the word room, the most room that a chain needs, and the chain; there is no growing ring."""
        stacks = {self.first[1:]: LINK_WORDS}
        chains = {self.first[1:]: [self.first]}
        waiting = [self.first[1:]]
        while waiting:
            function = waiting.pop()
            for link in self.links[function]:
                stack = stacks[function] + self.growth(function, link[0])
                if stack > stacks.get(link[1:], 0):
                    stacks[link[1:]] = stack
                    chains[link[1:]] = chains[function] + [link]
                    waiting.append(link[1:])
        most, best = 0, None
        for function in stacks:
            if stacks[function] + self.frame_words[function] > most or best is None:
                most, best = stacks[function] + self.frame_words[function], function
        return "room", most + ROOM_BEHIND, chains[best]


def _links(objects, u, f):
    """The links behind a function of an object: what the cells call that its code leads to."""
    cells = objects[u][6][f][4]
    reached = reached_cells(cells)
    found = {}
    for at, cell in enumerate(cells):
        if reached[at] and cell[0] in CALL_WORDS:
            v, g = callee_met(objects, u, cell[1])
            found[(cell[0], objects[v][1], g)] = True
    return sorted(found)
