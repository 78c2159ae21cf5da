"""Names, and the kinds of what stores, params and locals hold."""

from labelclocks.errors import BadKind, BadTrail
from labelclocks.values import has_doubles, is_tuple_of, is_tuple_within, is_within, is_whole

LETTERS = "abcdefghijklmnopqrstuvwxyz"
DIGITS = "0123456789"
RESERVED = (
    "again", "and", "ask", "body", "break", "call", "else", "fail", "function", "give", "if", "local", "no", "not",
    "number", "or", "over", "place", "record", "rest", "row", "show", "size", "store", "truth", "unit", "use", "while",
    "worth", "yes",
)
MOST_SIGNS = 8
MOST_ITEMS = 64
MOST_FIELDS = 6
MOST_DEEP = 4
MOST_WORDS = 400


def is_name(value):
    """Whether any value is a name."""
    if not isinstance(value, str) or not 1 <= len(value) <= MOST_SIGNS or value[0] not in LETTERS:
        return False
    return all([sign in LETTERS or sign in DIGITS for sign in value]) and value not in RESERVED


def is_plain(value):
    """Whether any value is a plain kind."""
    return isinstance(value, str) and value in ("number", "truth")


def is_kind(value):
    """Whether any value is a kind."""
    return _is_formed(value, MOST_DEEP) and word_count(value) <= MOST_WORDS


def _is_formed(value, deep):
    """Whether value has the form of a kind that is at most so deep; its words are not counted here."""
    if is_plain(value):
        return True
    if deep < 2 or not is_tuple_within(value, 2, 3):
        return False
    if value[0] == "row":
        return len(value) == 3 and is_within(value[1], 1, MOST_ITEMS) and _is_formed(value[2], deep - 1)
    return value[0] == "record" and len(value) == 2 and _are_fields(value[1], deep - 1)


def _are_fields(value, deep):
    if not is_tuple_within(value, 1, MOST_FIELDS):
        return False
    for field in value:
        if not is_tuple_of(field, 2) or not is_name(field[0]) or not _is_formed(field[1], deep):
            return False
    return not has_doubles([field[0] for field in value])


def word_count(kind):
    """How many words a kind has that is known to be one."""
    if is_plain(kind):
        return 1
    if kind[0] == "row":
        return kind[1] * word_count(kind[2])
    return sum([word_count(inner) for _, inner in kind[1]])


def words_of(kind):
    """How many words a kind has."""
    _need_kind(kind)
    return word_count(kind)


def inner_kind(kind, trail):
    """The kind to which a trail leads."""
    _need_kind(kind)
    return _walked(kind, trail)[0]


def offset_of(kind, trail):
    """How many words of the kind stand ahead of the part to which a trail leads."""
    _need_kind(kind)
    return _walked(kind, trail)[1]


def trails(kind):
    """The trail to each word of a kind, in order."""
    _need_kind(kind)
    return _trails(kind)


def field_kind(kind, field):
    """The pair of the kind of a record's field and the words ahead of it, None if there is no such field."""
    ahead = 0
    for name, inner in kind[1]:
        if name == field:
            return inner, ahead
        ahead += word_count(inner)
    return None


def _need_kind(kind):
    if not is_kind(kind):
        raise BadKind("no kind")


def _walked(kind, trail):
    """The pair of the kind to which a trail leads and its offset."""
    if not isinstance(trail, tuple):
        raise BadTrail("a trail is a tuple")
    offset = 0
    for step in trail:
        found = _stepped(kind, step)
        if found is None:
            raise BadTrail("a step leads nowhere")
        kind = found[0]
        offset += found[1]
    return kind, offset


def _stepped(kind, step):
    """The pair of the kind one step further in and the words ahead of it, None if the step leads nowhere."""
    if is_plain(kind):
        return None
    if kind[0] == "record":
        return field_kind(kind, step) if isinstance(step, str) else None
    if is_whole(step) and 0 <= step < kind[1]:
        return kind[2], step * word_count(kind[2])
    return None


def _trails(kind):
    if is_plain(kind):
        return [()]
    if kind[0] == "row":
        inner = _trails(kind[2])
        return [(at,) + trail for at in range(kind[1]) for trail in inner]
    return [(name,) + trail for name, inner in kind[1] for trail in _trails(inner)]
