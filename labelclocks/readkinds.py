"""Reads kinds."""

from labelclocks.kinds import MOST_DEEP, MOST_FIELDS, MOST_ITEMS, MOST_WORDS, word_count
from labelclocks.lines import tokens_of
from labelclocks.writing import text_of_kind

PLAIN = ("number", "truth")


def read_kind(cursor):
    """Any kind."""
    return _read_kind(cursor, MOST_WORDS, MOST_DEEP)


def read_told_kind(cursor, kind):
    """Just this kind."""
    # the last two tokens are the ends of the line and of the text
    for told in tokens_of(text_of_kind(kind))[:-2]:
        cursor.take([told[3]])
    return kind


def _read_kind(cursor, room, deep):
    """A kind that has at most so many words and is at most so deep."""
    word = cursor.take(PLAIN if deep < 2 else PLAIN + ("row", "record"))
    if word == "row":
        many = cursor.take_whole(1, min(MOST_ITEMS, room))
        return "row", many, _read_kind(cursor, room // many, deep - 1)
    if word == "record":
        return "record", _read_fields(cursor, room, deep - 1)
    return word


def _read_fields(cursor, room, deep):
    fields = []
    names = []
    sign = cursor.take(["("])
    while sign != ")":
        name = cursor.take_name([], names, True)
        kind = _read_kind(cursor, room, deep)
        names.append(name)
        fields.append((name, kind))
        # each field further has a word at least
        room -= word_count(kind)
        sign = cursor.take([")", ","] if len(fields) < MOST_FIELDS and room > 0 else [")"])
    return tuple(fields)
