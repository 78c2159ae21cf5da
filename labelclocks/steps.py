"""The forms of the steps and endings of blocks, and which temps they read and give.

The form of a step tells for each item of its tuple behind the word what stands there: a temp that the step gives
("to ..") or reads ("of .."), a worth or an address or, in a copy, either; or another value.
"""

GIVEN = ("to worth", "to address", "to either")
READ = ("of worth", "of address", "of either")
FORMS = {
    "const": ("to worth", "number"),
    "copy": ("to either", "of either"),
    "not": ("to worth", "of worth"),
    "plus": ("to worth", "of worth", "of worth"),
    "minus": ("to worth", "of worth", "of worth"),
    "times": ("to worth", "of worth", "of worth"),
    "over": ("to worth", "of worth", "of worth"),
    "rest": ("to worth", "of worth", "of worth"),
    "less": ("to worth", "of worth", "of worth"),
    "same": ("to worth", "of worth", "of worth"),
    "and": ("to worth", "of worth", "of worth"),
    "or": ("to worth", "of worth", "of worth"),
    "base": ("to address", "area"),
    "offset": ("to address", "of address", "offset"),
    "index": ("to address", "of address", "of worth", "words", "offset"),
    "load": ("to worth", "of address"),
    "save": ("of address", "of worth"),
    "clear": ("slot",),
    "check": ("of worth", "many", "station"),
    "divisor": ("of worth", "station"),
    "show": ("port", "of worth", "station"),
    "ask": ("to worth", "station"),
}


def temps_read(step):
    """The temps that a step reads, in the order of its tuple."""
    form = FORMS[step[0]]
    return [step[at + 1] for at, told in enumerate(form) if told in READ]


def temp_given(step):
    """The temp that a step gives, None if there is none."""
    return step[1] if FORMS[step[0]][0] in GIVEN else None


def goals_of(ending):
    """The goals of a block with this ending, in the order of its tuple."""
    word = ending[0]
    if word == "jump":
        return [ending[1]]
    if word == "test":
        return [ending[2], ending[3]]
    return [ending[4]] if word == "call" else []


def temps_read_last(ending):
    """The temps that an ending reads."""
    word = ending[0]
    if word == "test":
        return [ending[1]]
    if word == "give":
        return [] if ending[1] is None else [ending[1]]
    if word == "call":
        return list(ending[3])
    return list(ending[2]) if word == "last" else []


def temp_given_last(ending):
    """The temp that an ending gives on the way to its goal, None if there is none."""
    return ending[1] if ending[0] == "call" else None


def code_head(rows, callee):
    """The pair (ways, result) of a callee of the rows."""
    if callee[0] == "own":
        return rows[5][callee[1]][1:3]
    return rows[3][callee[1]][2:]
