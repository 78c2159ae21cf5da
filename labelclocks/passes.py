"""Passes over rows, one by one and by lists of words."""

from labelclocks.codelabels import is_code_label
from labelclocks.copying import copied
from labelclocks.errors import BadPasses, BadReading, BadRoads, BadWord
from labelclocks.folding import folded
from labelclocks.joining import threaded
from labelclocks.lasting import called_last
from labelclocks.laying import laid_in
from labelclocks.lowering import lowered
from labelclocks.needing import without_dead, without_twice
from labelclocks.peeling import peeled_off
from labelclocks.reading import is_reading
from labelclocks.rows import need_rows
from labelclocks.sourceroads import book_of, is_road_book
from labelclocks.units import need_unit
from labelclocks.values import is_list, is_tuple_of

MOST_PASSES = 40
PLAIN_WORDS = ("fold", "copies", "dead", "twice", "thread", "last")
LABEL_WORDS = ("lay", "peel")


def is_word(value):
    """Whether any value is a pass word."""
    if is_tuple_of(value, 1):
        return value[0] in PLAIN_WORDS
    return is_tuple_of(value, 2) and value[0] in LABEL_WORDS and is_code_label(value[1])


def passed(rows, roads, reading, word):
    """The pair of the rows and the reading behind a pass."""
    need_rows(rows)
    if not is_road_book(roads):
        raise BadRoads("no book of roads")
    if not is_reading(reading):
        raise BadReading("no reading")
    if not is_word(word):
        raise BadWord("no pass word")
    return _passed(rows, roads, reading, word)


def _passed(rows, roads, reading, word):
    """As passed, of right values."""
    if word[0] == "lay":
        return laid_in(rows, reading, word[1])
    if word[0] == "peel":
        return peeled_off(rows, roads, reading, word[1])
    if word[0] == "last":
        return called_last(rows, reading)
    return _with_other_steps(rows, word[0]), reading


def _with_other_steps(rows, word):
    """The rows behind a pass that leaves the reading as it is."""
    if word == "fold":
        return folded(rows)
    if word == "copies":
        return copied(rows)
    if word == "dead":
        return without_dead(rows)
    return without_twice(rows) if word == "twice" else threaded(rows)


def need_words(words):
    """Raises BadPasses unless words are a list of pass words."""
    if not is_list(words) or len(words) > MOST_PASSES:
        raise BadPasses(-1)
    for at, word in enumerate(words):
        if not is_word(word):
            raise BadPasses(at)


def chosen(unit, words):
    """The rows and the reading of a unit behind the passes of a list of words."""
    need_unit(unit)
    need_words(words)
    roads = book_of(unit)
    rows = lowered(unit)
    reading = ((), (), ())
    for word in words:
        rows, reading = _passed(rows, roads, reading, word)
    return rows, reading
