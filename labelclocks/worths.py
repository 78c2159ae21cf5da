"""Numbers that stand for what temps and places hold, the same one exactly if it is told to be the same."""


class Worths:
    """Gives numbers for what is told."""

    def __init__(self):
        self.numbers = {}
        self.many = 0

    def fresh(self):
        """A number unlike all others."""
        self.many += 1
        return self.many

    def made(self, key):
        """The number of what a word makes of what follows it in a tuple, the same one each time."""
        if key not in self.numbers:
            self.numbers[key] = self.fresh()
        return self.numbers[key]


class Holders:
    """What temps or places hold; each one of which nothing was told holds something of its own."""

    def __init__(self, worths):
        self.worths = worths
        self.held = {}

    def worth_of(self, holder):
        """The number of what one of them holds."""
        if holder not in self.held:
            self.held[holder] = self.worths.fresh()
        return self.held[holder]

    def hold(self, holder, number):
        """Makes one of them hold something."""
        self.held[holder] = number

    def replace_worth(self, number, other):
        """Makes all of them that hold one thing hold another one."""
        holders = [holder for holder in self.held if self.held[holder] == number]
        for holder in holders:
            self.held[holder] = other

    def twin(self):
        """Holders that hold the same, and go their own way."""
        other = Holders(self.worths)
        other.held = {holder: self.held[holder] for holder in self.held}
        return other


def link(temps, places, pairs):
    """Makes the place and the temp of each pair hold the same, and so all that pairs link."""
    for place, temp in pairs:
        if place not in places.held:
            places.hold(place, temps.worth_of(temp))
        elif temp not in temps.held:
            temps.hold(temp, places.worth_of(place))
        else:
            kept, gone = temps.worth_of(temp), places.worth_of(place)
            temps.replace_worth(gone, kept)
            places.replace_worth(gone, kept)
