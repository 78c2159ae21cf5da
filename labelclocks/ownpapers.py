"""Papers for the placings that this package makes."""

from labelclocks.clashes import need_registers
from labelclocks.emitting import emitted
from labelclocks.judging import params_held
from labelclocks.rows import need_code


def paper_of(rows, f, registers):
    """A paper that lets the placing of a code by that placed makes."""
    need_code(rows, f)
    need_registers(registers)
    emitters = [emitted(code, registers) for code in rows[5]]
    return {at: (emitters[f].starts[at], _held_at(emitters[f], at)) for at in sorted(emitters[f].starts)}


def _held_at(emitter, at):
    """The pairs (place, temp) of what places hold as a block begins."""
    if at == 0:
        return params_held(emitter.code)
    given = emitter.given_at.get(at)
    pairs = []
    for temp in sorted(emitter.alive_first[at]):
        # what a call gives is brought to its place only behind the mark
        pairs.append((("register", 0) if temp == given else emitter.places[temp], temp))
    return tuple(pairs)
