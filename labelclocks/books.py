"""Books of beats: what each word of the machine costs."""

from labelclocks.errors import BadBeats, BadBook
from labelclocks.values import is_within

WORDS = (
    "and", "ask", "base", "call", "check", "clear", "divisor", "fail", "get", "halt", "index", "jump", "keep", "last",
    "less", "load", "minus", "move", "not", "offset", "or", "over", "plus", "rest", "return", "room", "same", "save",
    "set", "show", "store", "times", "unless",
)
# what a step can cost more
MORE = ("taken", "wait")
MOST_BEATS = 99


def is_book(value):
    """Whether any value is a book of beats."""
    if not isinstance(value, dict) or len(value) != len(WORDS) + len(MORE):
        return False
    for key in value:
        if not isinstance(key, str) or key not in WORDS and key not in MORE:
            return False
        if not is_within(value[key], 0 if key in MORE else 1, MOST_BEATS):
            return False
    return True


def need_book(book):
    """Raises BadBook unless book is one."""
    if not is_book(book):
        raise BadBook("no book of beats")


def even_book(beats):
    """The book by which all words cost the same and nothing costs more."""
    if not is_within(beats, 1, MOST_BEATS):
        raise BadBeats("no number of beats")
    book = {word: beats for word in WORDS}
    for key in MORE:
        book[key] = 0
    return book
