"""The machine: rooms of code, and what strangers' deeds do there."""

from nomoreseen.compiler import need_code
from nomoreseen.deeds import need_deed, need_room
from nomoreseen.states import need_secrets
from nomoreseen.ticks import done, room_at_first


def first_room(code, secrets):
    """The room of this code ahead of all deeds."""
    need_code(code)
    return room_at_first(code, need_secrets(code.module, secrets))


def entered(code, room, deed):
    """(sight, room behind it) of a deed; None for the room behind never."""
    sight, _, behind = ticked(code, room, deed)
    return (sight, behind)


def ticked(code, room, deed):
    """(sight, ticks, room behind) of a deed; None for the room behind never."""
    need_code(code)
    told = need_room(code, room)
    return done(code, told, need_deed(code.book, code.module, deed))
