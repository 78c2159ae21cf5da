"""Columns of wholes, what whole sums of them make, and which whole sums of them are nothing.

A column, and a sum of columns, is a dict from keys to wholes, 0 left out.
"""


def joined(many, one, times, other):
    """The sum of two dicts, each one so many times."""
    found = {}
    if many != 0:
        for key in one:
            found[key] = many * one[key]
    if times != 0:
        for key in other:
            number = found.get(key, 0) + times * other[key]
            if number == 0:
                found.pop(key, None)
            else:
                found[key] = number
    return found


def bezout(one, other):
    """The triple (g, x, y): g is the greatest common divisor, and x * one + y * other."""
    x, y, u, v = 1, 0, 0, 1
    while other != 0:
        times = one // other
        one, other = other, one - times * other
        x, u = u, x - times * u
        y, v = v, y - times * v
    return (one, x, y) if one >= 0 else (-one, -x, -y)


class Lattice:
    """The whole sums of columns that were added.

    A base of them is in steps: each of its columns has its first row for itself. For each one it is kept of which
    columns it is the sum. Columns must be added with descending keys.
    """

    def __init__(self):
        # by first rows, pairs of a column of the base and the sum of added columns that it is
        self.base = {}
        # by the key of the last column in it, the sums of columns that are nothing; each one has there the least whole
        # above 0 that there can be, and as the sums of lesser ones are taken off, it is in steps
        self.relations = {}

    def add(self, key, column):
        """Adds a column; tells whether it is, some times, a sum of those that were there."""
        left, told = dict(column), {key: 1}
        changed = []
        while left:
            first = min(left)
            if first not in self.base:
                self.base[first] = (left, told)
                changed.append(first)
                break
            own, own_told = self.base[first]
            if left[first] % own[first] == 0:
                times = -(left[first] // own[first])
                left, told = joined(1, left, times, own), joined(1, told, times, own_told)
            else:
                g, x, y = bezout(own[first], left[first])
                many, times = -(left[first] // g), own[first] // g
                self.base[first] = (joined(x, own, y, left), joined(x, own_told, y, told))
                changed.append(first)
                left, told = joined(many, own, times, left), joined(many, own_told, times, told)
        if not left:
            sign = 1 if told[key] > 0 else -1
            self.relations[key] = self.without_relations(joined(sign, told, 0, {}), key)
        for first in reversed(changed):
            self.make_small(first)
        return not left

    def without_relations(self, told, key):
        """A sum of columns with those that have relations as seldom as can be, that of the key left out."""
        # the keys became less and less
        for later in reversed(list(self.relations)):
            if later in told and later != key:
                told = joined(1, told, -(told[later] // self.relations[later][later]), self.relations[later])
        return told

    def make_small(self, first):
        """Makes a column of the base small by those with later first rows, so that the base does not grow."""
        column, told = self.base[first]
        if column[first] < 0:
            column, told = joined(-1, column, 0, {}), joined(-1, told, 0, {})
        rows = sorted(column)
        for row in rows:
            if row != first and row in self.base:
                own, own_told = self.base[row]
                times = -(column.get(row, 0) // own[row])
                column, told = joined(1, column, times, own), joined(1, told, times, own_told)
        self.base[first] = (column, self.without_relations(told, None))
