"""Chooses the places in which the temps of a code lie."""

from labelclocks.clashes import SPARE_REGISTERS, across_in, clash_graph, core_and_order, met_blocks
from labelclocks.steps import temp_given, temp_given_last, temps_read, temps_read_last


def first_word(code, i):
    """The first word of slot i of a code's frame; of one behind the last slot, the first word behind all slots."""
    return len(code[1]) + sum(code[3][:i])


def places_in(code, registers):
    """The dict from each held temp of a code, ascending, to its place."""
    graph = clash_graph(code)
    kernel, order = core_and_order(graph, across_in(code), registers)
    chooser = Chooser(code, graph)
    many = registers - SPARE_REGISTERS
    # those of the core that are used most come first; each one of the others then finds a register in any case
    for temp in sorted(kernel, key=lambda temp: (-chooser.uses[temp], temp)) + list(reversed(order)):
        chooser.choose_register(temp, many)
    for temp in graph:
        if temp not in chooser.places:
            chooser.choose_word(temp)
    return {temp: chooser.places[temp] for temp in sorted(graph)}


class Chooser:
    """Chooses places one by one; temps that a copy joins lie in one place if they can."""

    def __init__(self, code, graph):
        self.params = len(code[1])
        self.words_from = first_word(code, len(code[3]))
        self.graph = graph
        self.places = {}
        self.uses = {temp: 0 for temp in graph}
        # the places where a temp would best lie: those of its friends, and register 0 for results
        self.friends = {temp: [] for temp in graph}
        self.wished = {}
        for _, steps, ending in met_blocks(code):
            for step in steps:
                self.count_uses(temps_read(step) + [temp_given(step)])
                if step[0] == "copy":
                    self.friends[step[1]].append(step[2])
                    self.friends[step[2]].append(step[1])
            self.count_uses(temps_read_last(ending) + [temp_given_last(ending)])
            if ending[0] == "call" or ending[0] == "give":
                self.wished[ending[1]] = ("register", 0)

    def count_uses(self, temps):
        """Counts a use of each of these temps, None left out."""
        for temp in temps:
            if temp is not None:
                self.uses[temp] += 1

    def liked_places(self, temp):
        """The places where a temp would best lie."""
        liked = [self.places[other] for other in self.friends[temp] if other in self.places]
        return liked + ([self.wished[temp]] if temp in self.wished else [])

    def choose_register(self, temp, many):
        """Chooses one of so many registers, if one is free."""
        taken = self.places_beside(temp)
        free = [("register", r) for r in range(many) if ("register", r) not in taken]
        if free:
            liked = [place for place in self.liked_places(temp) if place in free]
            self.places[temp] = (liked + free)[0]

    def choose_word(self, temp):
        """Chooses a word: a param lies in its own one, the others in as few as need be."""
        if temp < self.params:
            self.places[temp] = ("word", temp)
            return
        taken = self.places_beside(temp)
        liked = [place for place in self.liked_places(temp) if place[0] == "word" and place[1] >= self.words_from]
        liked = [place for place in liked if place not in taken]
        word = self.words_from
        while ("word", word) in taken:
            word += 1
        self.places[temp] = (liked + [("word", word)])[0]

    def places_beside(self, temp):
        """A dict with the places of the temps that clash with one."""
        return {self.places[other]: True for other in self.graph[temp] if other in self.places}
