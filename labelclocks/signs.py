"""What the nine words that join two numbers make of them; a truth is 1 or 0 here."""

NINE = ("plus", "minus", "times", "over", "rest", "less", "same", "and", "or")
WRAPPING = ("plus", "minus", "times")
DIVIDING = ("over", "rest")


def joined(word, one, other):
    """What a word makes of two numbers, ahead of the modulo; over and rest want another number than 0."""
    if word in WRAPPING:
        return _summed(word, one, other)
    if word == "over":
        return one // other
    if word == "rest":
        return one % other
    if word == "less":
        return int(one < other)
    if word == "same":
        return int(one == other)
    if word == "and":
        return int(one != 0 and other != 0)
    return int(one != 0 or other != 0)


def _summed(word, one, other):
    if word == "plus":
        return one + other
    if word == "minus":
        return one - other
    return one * other
