"""Texts of wholes without zeros ahead."""

from labelclocks.kinds import DIGITS

MOST_DIGITS = 30


def whole_of(text):
    """The whole from 0 on with a text of at most 30 digits, None if there is none."""
    if not 1 <= len(text) <= MOST_DIGITS or not all([sign in DIGITS for sign in text]):
        return None
    return None if text[0] == "0" and text != "0" else int(text)
