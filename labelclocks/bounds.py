"""Bounds of the beats of whole runs, and of how much slower or faster one way of compiling is than another."""

from labelclocks.books import need_book
from labelclocks.errors import NoRoad
from labelclocks.extremes import least_on, with_weights
from labelclocks.labelwebs import need_rounds, need_sides_joined, total_tables, web_and_names
from labelclocks.led import need_led
from labelclocks.objectlists import need_objects


def between(objects, main, book, rounds=None):
    """The pair of the least and the greatest beats of a whole run, None for the one that has no bound."""
    web, worths = _web_and_worths([objects], main, book, rounds)
    ends = book["call"] + book["halt"]
    least = _least_beats(web, worths)
    most = _least_beats(web, [-worth for worth in worths])
    return None if least is None else least + ends, None if most is None else ends - most


def gap(one, other, main, book, rounds=None):
    """The least that is left of the beats of other when those of one are taken off, None if there is no least."""
    web, worths = _web_and_worths([one, other], main, book, rounds)
    return _least_beats(web, worths)


def _web_and_worths(sides, main, book, rounds):
    """The web of the told roads, and how much each of its labels counts: those of one less where there is another."""
    for side in sides:
        need_objects(side)
    need_sides_joined(sides, main)
    need_book(book)
    need_rounds(sides, rounds)
    web, names = web_and_names(sides, main, rounds)
    for side in sides:
        need_led(side)
    tables = total_tables(sides, [book] * len(sides))
    last = len(sides) - 1
    return web, [tables[name] if name[0] == last else -tables[name] for name in names]


def _least_beats(web, worths):
    """The least beats of a complete road if labels count so much, None if there is no least."""
    told = least_on(with_weights(web, worths))
    if told[0] == "none":
        raise NoRoad("no told road")
    return told[1] if told[0] == "least" else None
