"""Which temps of a code hold worths and which ones addresses."""

from labelclocks.steps import FORMS, code_head, temp_given_last, temps_read_last


class Groups:
    """Groups of temps that must have one sort; the words worth and address stand for these sorts themselves."""

    def __init__(self):
        self.above = {}
        self.many = {}

    def head(self, member):
        """The member by which a group is called."""
        while member in self.above:
            member = self.above[member]
        return member

    def unite(self, one, other):
        """Makes one group of two."""
        low = self.head(one)
        high = self.head(other)
        if low == high:
            return
        # the smaller group goes below the larger one, so that all ways to the heads stay short
        if self.many.get(low, 1) > self.many.get(high, 1):
            low, high = high, low
        self.above[low] = high
        self.many[high] = self.many.get(low, 1) + self.many.get(high, 1)


def has_sorts(rows, code):
    """Whether each temp of a code of rows, whose steps and endings have their form, has one sort."""
    groups = Groups()
    for at, (way, _) in enumerate(code[1]):
        groups.unite(at, sort_of_way(way))
    for _, steps, ending in code[4]:
        for step in steps:
            _join_step(groups, step)
        _join_ending(groups, rows, code, ending)
    return groups.head("worth") != groups.head("address")


def sort_of_way(way):
    """The sort of a param or arg of this way."""
    return "worth" if way == "worth" else "address"


def _join_step(groups, step):
    if step[0] == "copy":
        groups.unite(step[1], step[2])
        return
    for at, told in enumerate(FORMS[step[0]]):
        if told in ("to worth", "of worth"):
            groups.unite(step[at + 1], "worth")
        elif told in ("to address", "of address"):
            groups.unite(step[at + 1], "address")


def _join_ending(groups, rows, code, ending):
    if temp_given_last(ending) is not None:
        groups.unite(temp_given_last(ending), "worth")
    if ending[0] == "call" or ending[0] == "last":
        callee = ending[2] if ending[0] == "call" else ending[1]
        ways = code_head(rows, callee)[0]
        for (way, _), arg in zip(ways, temps_read_last(ending)):
            groups.unite(arg, sort_of_way(way))
        return
    for temp in temps_read_last(ending):
        groups.unite(temp, "worth")
