"""The web of the roads that labels of the source can tell, beside one another for one or two ways of compiling."""

from labelclocks.books import is_book
from labelclocks.codelabels import is_code_label
from labelclocks.errors import BadBooks, BadNames, BadRounds, NoLabel, TooMany
from labelclocks.kinds import is_name
from labelclocks.led import need_led
from labelclocks.objectlists import need_joined
from labelclocks.prices import price_table
from labelclocks.reading import is_round
from labelclocks.sides import MOST_SIDES, Sides, need_alike, need_sides
from labelclocks.values import is_list, is_tuple_of, is_whole, is_within
from labelclocks.webs import MOST_LABELS, MOST_NETS, MOST_PLACES

MOST_ROUNDS = 30


def label_web(sides, main, rounds=None):
    """The pair (web, names) of the told roads of one or two sides."""
    need_sides(sides)
    need_sides_joined(sides, main)
    need_rounds(sides, rounds)
    return web_and_names(sides, main, rounds)


def need_sides_joined(sides, main):
    """Raises an error unless each side can be linked, and all are of the same units."""
    for side in sides:
        need_joined(side, main)
    need_alike(sides)


def need_rounds(sides, rounds):
    """Raises BadRounds unless rounds bounds rounds of right sides, or is None."""
    if rounds is None:
        return
    if not isinstance(rounds, dict):
        raise BadRounds("no dict")
    roads = {thing[1]: thing[8] for thing in sides[0]}
    for label in rounds:
        if not _is_round_label(roads, label) or not is_within(rounds[label], 0, MOST_ROUNDS):
            raise BadRounds("no bound of rounds by the label of a round")


def _is_round_label(roads, value):
    """Whether any value is the label of a round; roads are those of units, by their names."""
    if not is_tuple_of(value, 3) or not isinstance(value[0], str) or value[0] not in roads:
        return False
    if not is_whole(value[1]) or not is_whole(value[2]) or value[1] < 0 or value[2] < 0:
        return False
    return is_round(roads[value[0]], value[1], value[2])


def web_and_names(sides, main, rounds):
    """As label_web, of right values."""
    finder = Finder(Sides(sides, rounds))
    finder.find_all(main)
    return finder.told()


class Finder:
    """Finds the nets and places that are reached from main's door, as if each call came back."""

    def __init__(self, walk):
        self.walk = walk
        # the nets in the order in which they are found, and their numbers
        self.nets = []
        self.net_numbers = {}
        # net by net, the numbers of the places, and the edges with names in the place of labels
        self.places = []
        self.edges = []
        # the names that were read, and how many places there are
        self.names_read = {}
        self.many = 0

    def find_all(self, main):
        """Finds all that is reached."""
        self.number_of(self.walk.main_net(main))
        done = 0
        while done < len(self.nets):
            self.find_places(self.nets[done])
            done += 1

    def number_of(self, net):
        """The number of a net, which is new or not."""
        if net not in self.net_numbers:
            self.net_numbers[net] = len(self.nets)
            self.nets.append(net)
            # its start and its end
            self.count_more(2)
        return self.net_numbers[net]

    def count_more(self, many):
        """Counts places, and asks whether there is too much of something."""
        self.many += many
        if self.many > MOST_PLACES or len(self.nets) > MOST_NETS or len(self.names_read) > MOST_LABELS:
            raise TooMany(MOST_PLACES)

    def find_places(self, net):
        """Finds the places and edges of a net."""
        numbers = {None: 0}
        edges = []
        waiting = [None]
        while waiting:
            place = waiting.pop()
            for goal, called, names in self.walk.ways(net, place):
                if goal is not None and goal not in numbers:
                    numbers[goal] = len(numbers)
                    waiting.append(goal)
                    self.count_more(1)
                for name in names:
                    self.names_read[name] = True
                call = None if called is None else self.number_of(called)
                edges.append((numbers[place], goal, call, names))
        self.count_more(0)
        self.places.append(numbers)
        self.edges.append(edges)

    def told(self):
        """The pair (web, names) of what was found."""
        names = tuple(sorted(self.names_read))
        labels = {name: label for label, name in enumerate(names)}
        nets = []
        for numbers, edges in zip(self.places, self.edges):
            told = []
            for place, goal, call, read in edges:
                to = len(numbers) if goal is None else numbers[goal]
                told.append((place, to, call, 0, tuple([labels[name] for name in read])))
            nets.append((len(numbers) + 1, tuple(told)))
        return (len(names), tuple(nets)), names


def totals(names, sides, books):
    """The tuple of the totals of the prices of names."""
    if not isinstance(names, tuple) or not all([_is_label_name(name) for name in names]):
        raise BadNames("no tuple of names of labels")
    need_sides(sides)
    if not is_list(books) or len(books) != len(sides) or not all([is_book(book) for book in books]):
        raise BadBooks("no list of a book for each side")
    for side in sides:
        need_led(side)
    tables = total_tables(sides, books)
    for at, name in enumerate(names):
        if name not in tables:
            raise NoLabel(at)
    return tuple([tables[name] for name in names])


def _is_label_name(value):
    """Whether any value is a triple of the number of a side, a unit's name and a code label."""
    if not is_tuple_of(value, 3) or not is_within(value[0], 0, MOST_SIDES - 1):
        return False
    return is_name(value[1]) and is_code_label(value[2])


def total_tables(sides, books):
    """The dict from names to the totals of their prices, of led sides."""
    found = {}
    for side, (things, book) in enumerate(zip(sides, books)):
        for thing in things:
            table = price_table(thing, book)
            for label in table:
                found[(side, thing[1], label)] = table[label][2]
    return found
