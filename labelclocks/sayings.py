"""The forms of the lines that a desk understands."""

from labelclocks.books import MORE, WORDS
from labelclocks.kinds import is_name
from labelclocks.labeltexts import word_told
from labelclocks.tapes import MOST_INPUTS
from labelclocks.wholes import whole_of

# behind these words stands a text
TEXT_WORDS = ("read", "put")
# what stands behind other words; what comes in any number stands last
FORMS = {
    "drop": ("name",),
    "make": ("name", "whole", "words"),
    "arrange": ("name", "names"),
    "house": ("whole",),
    "begin": ("wholes",),
    "go": ("whole",),
    "keep": ("name",),
    "back": ("name",),
    "undo": (),
    "charge": ("key", "whole"),
    "even": ("whole",),
    "units": (),
    "kept": (),
    "ways": ("name",),
    "state": (),
    "items": (),
    "would": ("name", "whole", "words"),
    "profile": (),
    "book": (),
    "listing": ("name",),
}
# of which what comes in any number consists
MANY = {"words": "word", "names": "name", "wholes": "whole"}


def parts_of(line):
    """The list of the word of a line and what is told behind it, None for any value without a form."""
    if not isinstance(line, str):
        return None
    first, newline, text = line.partition("\n")
    if newline != "":
        return [first, text] if first in TEXT_WORDS else None
    pieces = first.split(" ")
    if pieces[0] not in FORMS:
        return None
    told = _told_by(FORMS[pieces[0]], pieces[1:])
    return None if told is None else pieces[:1] + told


def _told_by(form, pieces):
    """What pieces of a line tell, one for each part of a form; None if they do not fit."""
    found = []
    for at, part in enumerate(form):
        if part in MANY:
            told = [_part_told(MANY[part], piece) for piece in pieces[at:]]
            is_long = part == "wholes" and len(told) > MOST_INPUTS
            return None if None in told or is_long else found + [told]
        if at >= len(pieces) or _part_told(part, pieces[at]) is None:
            return None
        found.append(_part_told(part, pieces[at]))
    return found if len(pieces) == len(form) else None


def _part_told(part, piece):
    """What a piece of a line tells, None if it is not such a part."""
    if part == "name":
        return piece if is_name(piece) else None
    if part == "key":
        return piece if piece in WORDS or piece in MORE else None
    return whole_of(piece) if part == "whole" else word_told(piece)
