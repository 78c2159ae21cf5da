"""The prices of labels: what the machine spends from one mark to the next."""

from labelclocks.books import need_book
from labelclocks.cells import registers_read
from labelclocks.codelabels import is_code_label
from labelclocks.errors import BadLabels
from labelclocks.led import need_led
from labelclocks.machine import WAITED_FOR
from labelclocks.objects import need_object
from labelclocks.values import is_list

STATION_WORDS = ("check", "divisor", "show", "ask", "fail")
# the words of the cells with which a stretch ends
END_WORDS = ("unless", "call", "last", "return", "fail")


def prices(thing, book):
    """The dict from the labels of an object, ascending, to triples (lead, stations, total)."""
    need_object(thing)
    need_book(book)
    need_led([thing])
    return price_table(thing, book)


def sum_of(table, labels):
    """The sum of the totals that a table of prices has for labels."""
    if not is_list(labels):
        raise BadLabels(-1)
    found = 0
    for at, label in enumerate(labels):
        if not is_code_label(label) or label not in table:
            raise BadLabels(at)
        found += table[label][2]
    return found


def price_table(thing, book):
    """As prices, of right values and led code."""
    found = {}
    for function in thing[6]:
        cells = function[4]
        leads = _leads(cells, book)
        for at, cell in enumerate(cells):
            if cell[0] == "mark":
                found[cell[1]] = _priced(cells, at, leads.get(at, 0), book)
    return {label: found[label] for label in sorted(found)}


def _leads(cells, book):
    """The beats of the leads, by the addresses of marks; those that have none are left out."""
    leads = {1: book["room"]}
    for at, cell in enumerate(cells):
        if cell[0] == "unless":
            _add_lead(leads, cells, at + 1, 0, book)
            _add_lead(leads, cells, cell[2], book["taken"], book)
        elif cell[0] == "call":
            _add_lead(leads, cells, at + 1, 0, book)
    return leads


def _add_lead(leads, cells, at, beats, book):
    """Adds the lead that begins at an address, with what was spent ahead of it."""
    while cells[at][0] == "jump":
        beats += book["jump"]
        at = cells[at][1]
    leads[at] = beats


def _priced(cells, at, lead, book):
    """The price of the label whose mark stands at an address."""
    beats = lead
    stations = []
    loaded = None
    at += 1
    while cells[at][0] != "mark":
        cell = cells[at]
        beats += book[cell[0]]
        if loaded is not None and loaded in registers_read(cell):
            beats += book["wait"]
        if cell[0] in STATION_WORDS:
            stations.append((cell[-1], beats))
        if cell[0] in END_WORDS:
            break
        loaded = cell[1] if cell[0] in WAITED_FOR else None
        at = cell[1] if cell[0] == "jump" else at + 1
    return lead, tuple(stations), beats
