"""Temps that clash, those that live across calls, and the core that cannot be held in registers without care."""

from labelclocks.blocks import reached_blocks, told_last
from labelclocks.cells import LEAST_REGISTERS, MOST_REGISTERS
from labelclocks.errors import BadRegisters
from labelclocks.liveness import alive_in, step_back
from labelclocks.rows import need_code
from labelclocks.steps import temp_given, temp_given_last
from labelclocks.values import is_within

# registers through which what lies in words is worked on
SPARE_REGISTERS = 2


def clashes(rows, f):
    """The ascending list of the pairs of temps that clash."""
    need_code(rows, f)
    graph = clash_graph(rows[5][f])
    return sorted([(temp, other) for temp in graph for other in graph[temp] if temp < other])


def across(rows, f):
    """The ascending tuple of the temps that live across calls."""
    need_code(rows, f)
    return tuple(sorted(across_in(rows[5][f])))


def held_temps(rows, f):
    """The ascending tuple of the temps that are to be held somewhere."""
    need_code(rows, f)
    return tuple(held_in(rows[5][f]))


def core(rows, f, registers):
    """The ascending tuple of the temps that are left when all that find a register in any case are taken away."""
    need_code(rows, f)
    need_registers(registers)
    code = rows[5][f]
    return tuple(core_and_order(clash_graph(code), across_in(code), registers)[0])


def need_registers(registers):
    """Raises BadRegisters unless registers is how many a machine can have."""
    if not is_within(registers, LEAST_REGISTERS, MOST_REGISTERS):
        raise BadRegisters("no number of registers")


def met_blocks(code):
    """The blocks of a code that are met."""
    reached = reached_blocks(code[4])
    return [block for at, block in enumerate(code[4]) if reached[at]]


def clash_graph(code):
    """For each held temp the dict of True with the temps with which it clashes."""
    begins = alive_in(code[4])
    graph = {temp: {} for temp in held_in(code)}
    for _, steps, ending in met_blocks(code):
        told = told_last(ending, begins)
        if temp_given_last(ending) is not None:
            _clash(graph, ending[1], begins[ending[4]], ending[1])
        for step in reversed(steps):
            if temp_given(step) is not None:
                _clash(graph, step[1], told, step[2] if step[0] == "copy" else step[1])
            step_back(step, told)
    params = [temp for temp in range(len(code[1])) if temp in begins[0]]
    for temp in params:
        _clash(graph, temp, {other: True for other in params}, temp)
    return graph


def _clash(graph, temp, told, spared):
    """Lets a temp clash with all that are told but itself and one that is spared."""
    for other in told:
        if other != temp and other != spared:
            graph[temp][other] = True
            graph[other][temp] = True


def across_in(code):
    """The dict of True with the temps that live across calls."""
    begins = alive_in(code[4])
    found = {}
    for _, _, ending in met_blocks(code):
        if ending[0] == "call":
            for temp in begins[ending[4]]:
                if temp != ending[1]:
                    found[temp] = True
    return found


def held_in(code):
    """The ascending list of the temps that are to be held somewhere."""
    begins = alive_in(code[4])
    found = {temp: True for temp in range(len(code[1])) if temp in begins[0]}
    for _, steps, ending in met_blocks(code):
        for step in steps:
            found[temp_given(step)] = True
        found[temp_given_last(ending)] = True
    found.pop(None, None)
    return sorted(found)


def core_and_order(graph, lasting, registers):
    """The pair of the core, ascending, and of the others that do not live across calls, as they were taken away."""
    bound = registers - SPARE_REGISTERS
    left = {temp: True for temp in graph if temp not in lasting}
    times = {temp: len([other for other in graph[temp] if other in left]) for temp in left}
    waiting = [temp for temp in sorted(left) if times[temp] < bound]
    order = []
    while waiting:
        temp = waiting.pop()
        left.pop(temp)
        order.append(temp)
        for other in graph[temp]:
            if other in left:
                times[other] -= 1
                # just now there are too few, so it is not waiting yet
                if times[other] == bound - 1:
                    waiting.append(other)
    return sorted(left), order
