"""Judges the form of rows of blocks, as steps, endings and the sorts of temps tell it."""

from labelclocks.codelabels import is_code_label, is_station
from labelclocks.heads import are_uses, are_ways, is_result, is_size
from labelclocks.kinds import is_name
from labelclocks.sorts import has_sorts
from labelclocks.steps import FORMS, GIVEN, READ, code_head
from labelclocks.values import has_doubles, is_tuple_of, is_tuple_within, is_whole, is_within

MOST_STORES = 6
MOST_CODES = 6
MOST_SLOTS = 64
MOST_AREA = 400
MOST_BLOCKS = 400
MOST_STEPS = 8000
MOST_TEMP = 9999
MOST_MANY = 64
MOST_PORT = 5
MOST_FAIL = 9
# how many items the tuples of endings have, by their words
ENDINGS = {"jump": 2, "test": 4, "give": 2, "call": 5, "last": 3, "fail": 3}


def is_loose(value):
    """Whether any value has the form of rows."""
    if not is_tuple_of(value, 6) or value[0] != "rows" or not is_name(value[1]) or not is_size(value[2]):
        return False
    if not are_uses(value[3], value[1]) or not are_store_words(value[4]):
        return False
    if not is_tuple_within(value[5], 1, MOST_CODES) or not all([_is_head(code) for code in value[5]]):
        return False
    if has_doubles([code[0] for code in value[5]]):
        return False
    for code in value[5]:
        if not CodeJudge(value, code).are_blocks() or not has_sorts(value, code):
            return False
    return True


def are_store_words(value):
    """Whether value is a tuple of pairs (name, words), as rows have them for stores."""
    if not is_tuple_within(value, 0, MOST_STORES):
        return False
    for store in value:
        if not is_tuple_of(store, 2) or not is_name(store[0]) or not is_within(store[1], 1, MOST_AREA):
            return False
    return not has_doubles([store[0] for store in value])


def _is_head(value):
    """Whether value has the form of a code but for its blocks."""
    if not is_tuple_of(value, 5) or not is_name(value[0]) or not are_ways(value[1]) or not is_result(value[2]):
        return False
    if not is_tuple_within(value[3], 0, MOST_SLOTS) or not all([is_within(n, 1, MOST_AREA) for n in value[3]]):
        return False
    return is_tuple_within(value[4], 1, MOST_BLOCKS)


def is_temp(value):
    """Whether any value is a temp."""
    return is_within(value, 0, MOST_TEMP)


class CodeJudge:
    """Judges the blocks of a code of rows whose heads are right."""

    def __init__(self, rows, code):
        self.rows = rows
        self.code = code

    def are_blocks(self):
        """Whether all blocks have their form."""
        left = MOST_STEPS
        for block in self.code[4]:
            if not is_tuple_of(block, 3) or not (block[0] is None or is_code_label(block[0])):
                return False
            if not is_tuple_within(block[1], 0, left) or not all([self.is_step(step) for step in block[1]]):
                return False
            left -= len(block[1])
            if not self.is_ending(block[2]):
                return False
        return True

    def is_step(self, step):
        """Whether any value has the form of a step."""
        if not is_tuple_within(step, 2, 6) or not isinstance(step[0], str) or step[0] not in FORMS:
            return False
        form = FORMS[step[0]]
        if len(step) != len(form) + 1:
            return False
        return all([self.is_part(told, step[at + 1]) for at, told in enumerate(form)])

    def is_part(self, told, part):
        """Whether an item of a step is what its form tells."""
        if told in GIVEN or told in READ:
            return is_temp(part)
        if told == "number":
            return is_within(part, 0, self.rows[2] - 1)
        if told == "area":
            return self.is_area(part)
        if told == "slot":
            return is_within(part, 0, len(self.code[3]) - 1)
        if told == "station":
            return is_station(part)
        if told == "port":
            return is_within(part, 0, MOST_PORT)
        if told == "many":
            return is_within(part, 1, MOST_MANY)
        return is_within(part, 1 if told == "words" else 0, MOST_AREA)

    def is_area(self, value):
        """Whether any value is a slot of the code or a store of the rows."""
        if not is_tuple_of(value, 2):
            return False
        if value[0] == "slot":
            return self.is_part("slot", value[1])
        return value[0] == "store" and isinstance(value[1], str) and value[1] in [store[0] for store in self.rows[4]]

    def is_ending(self, ending):
        """Whether any value has the form of an ending."""
        if not is_tuple_within(ending, 2, 5) or not isinstance(ending[0], str) or ending[0] not in ENDINGS:
            return False
        if len(ending) != ENDINGS[ending[0]]:
            return False
        word = ending[0]
        if word == "jump":
            return self.is_block(ending[1])
        if word == "test":
            return is_temp(ending[1]) and self.is_block(ending[2]) and self.is_block(ending[3])
        if word == "give":
            return ending[1] is None if self.code[2] is None else is_temp(ending[1])
        if word == "fail":
            return is_within(ending[1], 0, MOST_FAIL) and is_station(ending[2])
        if word == "last":
            return self.are_args(ending[1], ending[2]) and code_head(self.rows, ending[1])[1] == self.code[2]
        if not self.are_args(ending[2], ending[3]) or not self.is_block(ending[4]):
            return False
        return ending[1] is None or is_temp(ending[1]) and code_head(self.rows, ending[2])[1] is not None

    def is_block(self, value):
        """Whether any value is the number of a block."""
        return is_within(value, 0, len(self.code[4]) - 1)

    def are_args(self, callee, passed):
        """Whether callee is one, and what is passed are as many temps as it has params."""
        if not is_tuple_of(callee, 2) or not is_whole(callee[1]) or callee[1] < 0:
            return False
        if callee[0] == "own":
            known = callee[1] < len(self.rows[5])
        else:
            known = callee[0] == "use" and callee[1] < len(self.rows[3])
        if not known or not is_tuple_of(passed, len(code_head(self.rows, callee)[0])):
            return False
        return all([is_temp(arg) for arg in passed])
