"""The road that labels tell through rows of blocks, data left out."""

from labelclocks.allrows import code_called, main_of, need_all_rows
from labelclocks.codelabels import is_code_label
from labelclocks.errors import BadLabels
from labelclocks.values import is_list, is_tuple_of


def blocks_of(all_rows, labels):
    """The list of the triples (unit, f, block) of the road that these labels tell."""
    need_all_rows(all_rows)
    if not is_list(labels):
        raise BadLabels(0)
    walk = RowWalk(all_rows, labels)
    while walk.goes_on():
        walk.go_on()
    if walk.used < len(labels):
        raise BadLabels(walk.used)
    return walk.road


class RowWalk:
    """A walk from block to block. A place is a triple (number of the rows, f, block)."""

    def __init__(self, all_rows, labels):
        self.all_rows = all_rows
        self.labels = labels
        self.used = 0
        self.road = []
        # where the calls that are not over go on
        self.backs = []
        # the places that can be next, none behind the end
        self.ahead = [main_of(all_rows) + (0,)]

    def block_at(self, place):
        """The block at a place."""
        return self.all_rows[place[0]][5][place[1]][4][place[2]]

    def goes_on(self):
        """Whether there is a place that can be next, and a label for it if it wants one."""
        if not self.ahead:
            return False
        # of several ones each has a label
        return self.used < len(self.labels) or self.block_at(self.ahead[0])[0] is None

    def go_on(self):
        """Takes the next place."""
        place = self.next_place()
        _, _, ending = self.block_at(place)
        unit, f, _ = place
        self.road.append((self.all_rows[unit][1], f, place[2]))
        word = ending[0]
        if word == "jump":
            self.ahead = [(unit, f, ending[1])]
        elif word == "test":
            self.ahead = [(unit, f, ending[2]), (unit, f, ending[3])]
        elif word == "call":
            self.backs.append((unit, f, ending[4]))
            self.ahead = [code_called(self.all_rows, unit, ending[2]) + (0,)]
        elif word == "last":
            self.ahead = [code_called(self.all_rows, unit, ending[1]) + (0,)]
        else:
            self.ahead = [self.backs.pop()] if word == "give" and self.backs else []

    def next_place(self):
        """The one of the places ahead that the next label tells, if they want one."""
        if self.block_at(self.ahead[0])[0] is None:
            return self.ahead[0]
        told = self.labels[self.used]
        if is_tuple_of(told, 2) and is_code_label(told[1]):
            for place in self.ahead:
                if told == (self.all_rows[place[0]][1], self.block_at(place)[0]):
                    self.used += 1
                    return place
        raise BadLabels(self.used)
