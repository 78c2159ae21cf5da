"""Reads expressions and places.

A height is how many nodes may lie one in another: what is read has at most so many, and what is left open by the
tokens read so far is thought of as low as it can be.
"""

from labelclocks.kinds import field_kind
from labelclocks.nodes import height_of
from labelclocks.reach import steps_to
from labelclocks.writing import SIGNS

ARITHMETIC = ("plus", "minus", "times", "over", "rest")
COMPARING = ("less", "same")
JOINING = ("and", "or")
EITHER = ("number", "truth")


def read_expression(cursor, reach, wanted, height):
    """The pair of an expression and its kind, which is one of the wanted plain kinds."""
    rights = []
    if "truth" in wanted:
        rights.extend(["yes", "no"])
    if height > 1:
        rights.append("(")
    rights.extend(reach.names_with(wanted, height - 1))
    word = cursor.take_word_or_whole(rights, reach.size - 1 if "number" in wanted else -1)
    if word == "(":
        return _read_bracket(cursor, reach, wanted, height - 1)
    if word == "yes" or word == "no":
        return ("truth", word), "truth"
    if word not in reach.kinds_named:
        return ("number", int(word)), "number"
    place, kind = read_place(cursor, reach, word, wanted, height - 1)
    return ("read", place), kind


def _read_bracket(cursor, reach, wanted, height):
    """What stands behind a bracket that opens an expression; height is that of its parts."""
    if "truth" in wanted and cursor.tells("not"):
        cursor.take(["not"])
        inner, _ = read_expression(cursor, reach, ["truth"], height)
        cursor.take([")"])
        return ("not", inner), "truth"
    # a truth can be made of either kind, a number of numbers alone
    left, kind = read_expression(cursor, reach, EITHER if "truth" in wanted else ["number"], height)
    words = _words_between(kind, wanted)
    sign = cursor.take([SIGNS[word] for word in words])
    right, _ = read_expression(cursor, reach, [kind], height)
    cursor.take([")"])
    for word in words:
        if SIGNS[word] == sign:
            return (word, left, right), "number" if word in ARITHMETIC else "truth"
    return None


def _words_between(kind, wanted):
    """The words that can stand behind a left operand of this kind."""
    if kind == "truth":
        return JOINING
    arithmetic = ARITHMETIC if "number" in wanted else ()
    return arithmetic + (COMPARING if "truth" in wanted else ())


def read_place(cursor, reach, name, wanted, height):
    """The pair of the place that begins with a name, already taken, and its kind, which is a wanted one."""
    place = ("name", name)
    kind = reach.kinds_named[name]
    taken = 0
    # how many steps the whole place can have, itself and all its indexes being no higher than there is room
    most = height - 1
    while kind not in wanted:
        taken += 1
        if kind[0] == "record":
            place, kind = _read_field(cursor, place, kind, wanted, most - taken)
        else:
            cursor.take(["["])
            kind = kind[2]
            index, _ = read_expression(cursor, reach, ["number"], height - 1 - steps_to(kind, wanted))
            cursor.take(["]"])
            place = ("item", place, index)
            # each step behind this one puts the index one deeper
            most = min(most, height - 1 + taken - height_of(index))
    return place, kind


def _read_field(cursor, place, kind, wanted, left):
    """A step to a field from which so many steps more can lead to a wanted kind."""
    cursor.take(["."])
    field = cursor.take([name for name, inner in kind[1] if steps_to(inner, wanted) <= left])
    return ("field", place, field), field_kind(kind, field)[0]
