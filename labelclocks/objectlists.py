"""Lists of objects, and whether they can be linked."""

from labelclocks.errors import BadObjects, Missing, NoMain, Twice, Unlike, UnlikeSizes
from labelclocks.heads import MOST_UNITS
from labelclocks.objects import is_object
from labelclocks.values import is_list

MAIN = ("main", (), None)


def are_objects(value):
    """Whether any value is a list of objects."""
    return is_list(value) and 1 <= len(value) <= MOST_UNITS and all([is_object(thing) for thing in value])


def need_objects(objects):
    """Raises BadObjects unless objects are a list of such."""
    if not are_objects(objects):
        raise BadObjects("no list of objects")


def need_joined(objects, main):
    """Raises an error unless objects have one size and unlike names, main begins, and all uses are met."""
    if len(set([thing[2] for thing in objects])) > 1:
        raise UnlikeSizes("objects of unlike sizes")
    names = {}
    for thing in objects:
        if thing[1] in names:
            raise Twice(thing[1])
        names[thing[1]] = True
    if not isinstance(main, str) or main not in names or main_of(objects, main) is None:
        raise NoMain("no object with a main")
    for thing in objects:
        for at, use in enumerate(thing[4]):
            met = function_met(objects, use)
            if met is None:
                raise Missing(thing[1], at)
            if objects[met[0]][6][met[1]][1:3] != use[2:]:
                raise Unlike(thing[1], at)


def main_of(objects, main):
    """The numbers of the object with the name main and of its function main, None if it can't begin a run."""
    for u, thing in enumerate(objects):
        for f, function in enumerate(thing[6]):
            if thing[1] == main and function[:3] == MAIN:
                return u, f
    return None


def function_met(objects, use):
    """The numbers of the object and the function that a use names, None if there are none."""
    for v, thing in enumerate(objects):
        for f, function in enumerate(thing[6]):
            if (thing[1], function[0]) == use[:2]:
                return v, f
    return None


def callee_met(objects, u, callee):
    """The numbers of the object and the function that a callee of an object is."""
    if callee[0] == "own":
        return u, callee[1]
    return function_met(objects, objects[u][4][callee[1]])
