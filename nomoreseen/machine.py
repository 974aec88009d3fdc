"""The machine: rooms of code, and what strangers' deeds do there."""

from nomoreseen.compiler import need_code
from nomoreseen.deeds import need_deed, need_room
from nomoreseen.states import first_state, need_secrets
from nomoreseen.ticks import done


def first_room(code, secrets):
    """The room of this code ahead of all deeds."""
    need_code(code)
    cells = first_state(code.module, need_secrets(code.module, secrets))[0]
    return (cells, (), (), (), ())


def entered(code, room, deed):
    """(sight, room behind it) of a deed; None for the room behind never."""
    sight, _, behind = ticked(code, room, deed)
    return (sight, behind)


def ticked(code, room, deed):
    """(sight, ticks, room behind) of a deed; None for the room behind never."""
    need_code(code)
    told = need_room(code, room)
    return done(code, told, need_deed(code, deed))
