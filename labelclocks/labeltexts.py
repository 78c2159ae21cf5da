"""The texts of code labels and of pass words."""

from labelclocks.codelabels import MARKS, MOST_FUNCTION, MOST_MARKS, MOST_NUMBER, is_code_label
from labelclocks.errors import BadLabel, BadLabelText, BadPassesText
from labelclocks.passes import LABEL_WORDS, MOST_PASSES, PLAIN_WORDS, need_words
from labelclocks.wholes import whole_of

# in the order of the words of marks
MARK_SIGNS = "@<>"


def label_text(label):
    """The text of a code label."""
    if not is_code_label(label):
        raise BadLabel("no code label")
    return text_of_label(label)


def text_of_label(label):
    """The text of a right code label."""
    f, k, way = label
    pieces = [f"{f}.{k}"]
    for word, g, j in way:
        pieces.append(f"{MARK_SIGNS[MARKS.index(word)]}{g}.{j}")
    return "".join(pieces)


def label_of(text):
    """The code label with a text."""
    label = label_told(text) if isinstance(text, str) else None
    if label is None:
        raise BadLabelText("no text of a code label")
    return label


def label_told(text):
    """The code label with a text, None if there is none."""
    pieces = [""]
    signs = []
    for sign in text:
        if sign in MARK_SIGNS:
            signs.append(sign)
            pieces.append("")
        else:
            pieces[-1] += sign
    pairs = [_pair_told(piece) for piece in pieces]
    if None in pairs or len(signs) > MOST_MARKS:
        return None
    way = [(MARKS[MARK_SIGNS.index(sign)],) + pair for sign, pair in zip(signs, pairs[1:])]
    return pairs[0] + (tuple(way),)


def _pair_told(text):
    """The function and the number that a text tells, None if it tells none."""
    first, point, behind = text.partition(".")
    f, k = whole_of(first), whole_of(behind)
    if point == "" or f is None or k is None or f > MOST_FUNCTION or k > MOST_NUMBER:
        return None
    return f, k


def passes_text(words):
    """The text of pass words."""
    need_words(words)
    return " ".join([text_of_word(word) for word in words])


def text_of_word(word):
    """The text of a right pass word."""
    return word[0] if len(word) == 1 else f"{word[0]}:{text_of_label(word[1])}"


def passes_of(text):
    """The list of the pass words with a text."""
    if not isinstance(text, str):
        raise BadPassesText(None)
    pieces = text.split(" ") if text else []
    words = [word_told(piece) for piece in pieces]
    if None in words:
        raise BadPassesText(words.index(None))
    if len(words) > MOST_PASSES:
        raise BadPassesText(MOST_PASSES)
    return words


def word_told(text):
    """The pass word with a text, None if there is none."""
    if text in PLAIN_WORDS:
        return (text,)
    word, colon, behind = text.partition(":")
    label = label_told(behind)
    if word not in LABEL_WORDS or colon == "" or label is None:
        return None
    return word, label
