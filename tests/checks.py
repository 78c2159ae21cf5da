"""What several test files ask."""

from labelclocks.errors import BadText
from labelclocks.lines import tokens_of

# values of many kinds, none of which is right anywhere but by its form
ODD_VALUES = (
    None, True, False, 0, 1, -1, 10 ** 99, "", "a", "number", "x y", [], (), {}, [1], (1,), {"a": 1}, ("row",), ((),),
    [[]], ("record", ()), ("row", 1), (None, None), ("u", 10, (), (), ()), {1: {2: [3]}}, ValueError("x"), object(),
)


def wrong_spot(read, text):
    """Where a reader finds the first wrong token, None if it finds none."""
    try:
        read(text)
    except BadText as error:
        return error.line, error.column
    return None


def token_pairs(text):
    """The pairs (indent, token) of a text's tokens."""
    return [(indent, token) for _, _, indent, token in tokens_of(text)]


def nested(value, times):
    """A tuple in a tuple, so many times."""
    for _ in range(times):
        value = (value,)
    return value


def text_of_tokens(pairs):
    """A text that has these tokens and maybe further ends."""
    lines = []
    line = ""
    for indent, token in pairs:
        if token == "\n":
            lines.append(line)
            line = ""
        elif indent is not None:
            line = " " * indent + token
        elif token:
            line += " " + token
    return "\n".join(lines + [line])
