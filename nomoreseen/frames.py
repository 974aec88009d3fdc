"""The wide reading with an own pile of so many words."""

from nomoreseen.deeds import need_script
from nomoreseen.errors import InvalidFrames, InvalidSize
from nomoreseen.forged import Wide
from nomoreseen.spots import need_spots
from nomoreseen.states import need_secrets
from nomoreseen.values import is_below, is_number, is_row, is_sequence
from nomoreseen.wide import deeds_read

MOST_WORDS = 10 ** 6


def piled_sights(book, module, guards, kept, room, secrets, script):
    """The sights of the deeds of a script, if the own pile has room for so many words."""
    lot = need_spots(book, module, guards)
    told = _need_kept(module, lot, kept)
    if not is_below(room, MOST_WORDS + 1):
        raise InvalidSize("room")
    wide = Wide(book, module, lot, need_secrets(module, secrets), told, room)
    seen, _ = deeds_read(wide, need_script(book, module, script))
    return seen


def _need_kept(module, guards, value):
    """For each call the variables that are kept of its frame (any value), None where it lies open."""
    calls = module.calls()
    if not is_row(value, len(calls)):
        raise InvalidFrames(-1)
    told = []
    for at, (entry, row) in enumerate(calls):
        out = module.outs[module.steps[entry][row][2]][0]
        is_open = ("frame", out) not in guards
        if is_open != (value[at] is None) or not (is_open or _are_inner(module, entry, value[at])):
            raise InvalidFrames(at)
        told.append(None if is_open else tuple(value[at]))
    return tuple(told)


def _are_inner(module, entry, value):
    """Whether these are ascending unlike numbers of the parameter and locals of an entry."""
    if not is_sequence(value) or not all([is_number(variable) for variable in value]):
        return False
    many = len(module.cells)
    limit = many + 1 + len(module.entries[entry][4])
    return all([
        many <= variable < limit and (at == 0 or value[at - 1] < variable) for at, variable in enumerate(value)
    ])
