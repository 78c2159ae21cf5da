"""Goes over the tokens of a text, asking of each one whether it is right."""

from labelclocks.errors import BadText
from labelclocks.kinds import DIGITS, is_name
from labelclocks.lines import END_OF_TEXT

# no whole in a text has more digits
MOST_DIGITS = 5


def is_whole_text(token, low, high):
    """Whether a token is a whole from low to high without zeros ahead."""
    if not 1 <= len(token) <= MOST_DIGITS or not all([sign in DIGITS for sign in token]):
        return False
    if token[0] == "0" and token != "0":
        return False
    return low <= int(token) <= high


def fresh_name(barred):
    """A name that is not among the barred ones."""
    at = 0
    while f"n{at}" in barred:
        at += 1
    return f"n{at}"


class Cursor:
    """A place among tokens. Those ahead of it are right.

    At a wrong token a cursor raises BadText, or, if it completes, reads no further: from there on it tells as taken
    what is told first to be right, so that its reader comes to an end that the right tokens can have.
    """

    def __init__(self, tokens, completes):
        self.tokens = tokens
        self.completes = completes
        self.at = 0
        self.is_over = False

    def begins(self, indent):
        """Whether there is a token here that is the first one of a line with this indent."""
        return not self.is_over and self.tokens[self.at][2] == indent

    def tells(self, token):
        """Whether this token stands here."""
        return not self.is_over and self.tokens[self.at][3] == token

    def take(self, rights):
        """Takes one of these tokens."""
        return self.take_if(not self.is_over and self.tokens[self.at][3] in rights, rights[0])

    def take_first(self, indent, rights):
        """Takes one of these tokens as the first one of a line."""
        return self.take_if(self.begins(indent) and self.tokens[self.at][3] in rights, rights[0])

    def take_whole(self, low, high):
        """Takes a whole from low to high."""
        is_right = not self.is_over and is_whole_text(self.tokens[self.at][3], low, high)
        return int(self.take_if(is_right, str(low)))

    def take_word_or_whole(self, rights, high):
        """Takes one of these tokens or the text of a whole from 0 to high, and tells the token."""
        is_right = not self.is_over
        if is_right and self.tokens[self.at][3] not in rights:
            is_right = is_whole_text(self.tokens[self.at][3], 0, high)
        return self.take_if(is_right, rights[0] if high < 0 else "0")

    def take_name(self, wished, barred, is_free):
        """Takes a wished name or, if it is free which one, any one that is not barred."""
        is_right = not self.is_over and self.tokens[self.at][3] in wished
        if not self.is_over and is_free and not is_right:
            is_right = is_name(self.tokens[self.at][3]) and self.tokens[self.at][3] not in barred
        return self.take_if(is_right, wished[0] if wished else fresh_name(barred))

    def take_end(self):
        """Takes the end of the text."""
        self.take_if(self.tells(END_OF_TEXT), END_OF_TEXT)

    def take_if(self, is_right, instead):
        """Takes the token here if it is right; tells instead what else to take for it, if it is not."""
        line, column, _, token = self.tokens[self.at]
        if is_right:
            self.at = min(self.at + 1, len(self.tokens) - 1)
            return token
        if not self.completes:
            raise BadText(line, column)
        self.is_over = True
        return instead
