"""Images: code with the addresses of all that it names, as the machine runs it."""

from labelclocks.cells import (
    CELL_FORMS, LEAST_REGISTERS, MOST_REGISTERS, is_plain_part, registers_read,
)
from labelclocks.codelabels import is_code_label, is_station
from labelclocks.heads import is_size
from labelclocks.kinds import is_name
from labelclocks.values import is_tuple_of, is_tuple_within, is_within

MOST_STORE_WORDS = 20000
LEAST_ROOM = 8
MOST_ROOM = 20000
MOST_IMAGE_CELLS = 40000
# the forms of cells that have others than in code by itself
IMAGE_FORMS = {
    "mark": ("unit", "label"),
    "point": ("to", "point"),
    "call": ("goal", "frame"),
    "last": ("goal",),
    "halt": (),
}


def is_image(value):
    """Whether any value is an image."""
    if not is_tuple_of(value, 6) or value[0] != "image" or not is_size(value[1]):
        return False
    _, size, registers, stores, room, cells = value
    if not is_within(registers, LEAST_REGISTERS, MOST_REGISTERS) or not is_within(stores, 0, MOST_STORE_WORDS):
        return False
    if not is_room(room) or not is_tuple_within(cells, 1, MOST_IMAGE_CELLS):
        return False
    bounds = {
        "to": registers - 1, "of": registers - 1, "number": size - 1, "goal": len(cells) - 1, "point": stores - 1,
    }
    return all([_is_image_cell(cell, bounds) for cell in cells])


def is_room(value):
    """Whether any value is how many words of stack a machine can have."""
    return is_within(value, LEAST_ROOM, MOST_ROOM)


def _form_of(word):
    """The form of an image's cell with a word, None if there is none."""
    if word in IMAGE_FORMS:
        return IMAGE_FORMS[word]
    return None if word == "store" else CELL_FORMS.get(word)


def _is_image_cell(value, bounds):
    if not is_tuple_within(value, 1, 6) or not isinstance(value[0], str):
        return False
    form = _form_of(value[0])
    if form is None or len(value) != len(form) + 1:
        return False
    return all([_is_part(told, value[at + 1], bounds) for at, told in enumerate(form)])


def _is_part(told, part, bounds):
    """Whether an item of a cell is what its form tells."""
    if told in bounds:
        return is_within(part, 0, bounds[told])
    if told == "unit":
        return is_name(part)
    if told == "label":
        return is_code_label(part)
    if told == "station":
        return is_tuple_of(part, 3) and is_name(part[0]) and is_station(part[1:])
    return is_plain_part(told, part)


def reads_in_image(cell, r):
    """Whether a cell of an image reads a register."""
    return cell[0] not in IMAGE_FORMS and r in registers_read(cell)
