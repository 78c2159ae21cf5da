"""The forms of the steps and endings of blocks, and which temps they read and give.

The form of a step tells for each item of its tuple behind the word what stands there: a temp that the step gives
("to ..") or reads ("of .."), a worth or an address or, in a copy, either; or another value.
"""

TO_WORTH = "to worth"
TO_ADDRESS = "to address"
TO_EITHER = "to either"
OF_WORTH = "of worth"
OF_ADDRESS = "of address"
OF_EITHER = "of either"
GIVEN = (TO_WORTH, TO_ADDRESS, TO_EITHER)
READ = (OF_WORTH, OF_ADDRESS, OF_EITHER)
FORMS = {
    "const": (TO_WORTH, "number"),
    "copy": (TO_EITHER, OF_EITHER),
    "not": (TO_WORTH, OF_WORTH),
    "plus": (TO_WORTH, OF_WORTH, OF_WORTH),
    "minus": (TO_WORTH, OF_WORTH, OF_WORTH),
    "times": (TO_WORTH, OF_WORTH, OF_WORTH),
    "over": (TO_WORTH, OF_WORTH, OF_WORTH),
    "rest": (TO_WORTH, OF_WORTH, OF_WORTH),
    "less": (TO_WORTH, OF_WORTH, OF_WORTH),
    "same": (TO_WORTH, OF_WORTH, OF_WORTH),
    "and": (TO_WORTH, OF_WORTH, OF_WORTH),
    "or": (TO_WORTH, OF_WORTH, OF_WORTH),
    "base": (TO_ADDRESS, "area"),
    "offset": (TO_ADDRESS, OF_ADDRESS, "offset"),
    "index": (TO_ADDRESS, OF_ADDRESS, OF_WORTH, "words", "offset"),
    "load": (TO_WORTH, OF_ADDRESS),
    "save": (OF_ADDRESS, OF_WORTH),
    "clear": ("slot",),
    "check": (OF_WORTH, "many", "station"),
    "divisor": (OF_WORTH, "station"),
    "show": ("port", OF_WORTH, "station"),
    "ask": (TO_WORTH, "station"),
}


def temps_read(step):
    """The temps that a step reads, in the order of its tuple."""
    form = FORMS[step[0]]
    return [step[at + 1] for at, told in enumerate(form) if told in READ]


def temp_given(step):
    """The temp that a step gives, None if there is none."""
    return step[1] if FORMS[step[0]][0] in GIVEN else None


def goals_of(ending):
    """The goals of a block with this ending, in the order of its tuple."""
    word = ending[0]
    if word == "jump":
        return [ending[1]]
    if word == "test":
        return [ending[2], ending[3]]
    return [ending[4]] if word == "call" else []


def temps_read_last(ending):
    """The temps that an ending reads."""
    word = ending[0]
    if word == "test":
        return [ending[1]]
    if word == "give":
        return [] if ending[1] is None else [ending[1]]
    if word == "call":
        return list(ending[3])
    return list(ending[2]) if word == "last" else []


def temp_given_last(ending):
    """The temp that an ending gives on the way to its goal, None if there is none."""
    return ending[1] if ending[0] == "call" else None


def code_head(rows, callee):
    """The pair (ways, result) of a callee of the rows."""
    if callee[0] == "own":
        return rows[5][callee[1]][1:3]
    return rows[3][callee[1]][2:]
