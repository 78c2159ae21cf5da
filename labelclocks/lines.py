"""The tokens of texts."""

from labelclocks.errors import BadText

WORD_SIGNS = "abcdefghijklmnopqrstuvwxyzABCDEFGHIJKLMNOPQRSTUVWXYZ0123456789_"
END_OF_LINE = "\n"
END_OF_TEXT = ""


def tokens_of(text):
    """The list of the tokens of a text: tuples (line, column, indent, token)."""
    if not isinstance(text, str):
        raise BadText(1, 1)
    lines = text.split("\n")
    tokens = []
    for at, line in enumerate(lines):
        tokens.extend(_line_tokens(at + 1, line.partition("#")[0]))
    tokens.append((len(lines) + 1, 1, None, END_OF_TEXT))
    return tokens


def _line_tokens(number, line):
    """The tokens of a line without its remark, its end too if it has others."""
    tokens = []
    at = 0
    behind = 0
    while at < len(line):
        if line[at] == " ":
            at += 1
            continue
        behind = _token_end(line, at)
        indent = None if tokens else at
        tokens.append((number, at + 1, indent, line[at:behind]))
        at = behind
    if tokens:
        tokens.append((number, behind + 1, None, END_OF_LINE))
    return tokens


def _token_end(line, at):
    """Where the token ends that begins at an index."""
    if line[at] not in WORD_SIGNS:
        return at + 1
    while at < len(line) and line[at] in WORD_SIGNS:
        at += 1
    return at
