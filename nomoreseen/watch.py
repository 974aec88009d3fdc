"""What strangers see of scripts that are told rightly."""

from nomoreseen.errors import Refused
from nomoreseen.ticks import done, room_at_first


def seen_along(code, secrets, script):
    """The sights of the deeds; Refused for a deed behind a never."""
    room = room_at_first(code, secrets)
    told = []
    for at, deed in enumerate(script):
        if room is None:
            raise Refused(at)
        sight, _, room = done(code, room, deed)
        told.append(sight)
    return tuple(told)


def first_unlike(codes, pair, script):
    """The number of the first deed whose sights differ, of two codes with a secret each; None if there is none."""
    rooms = [room_at_first(codes[at], pair[at]) for at in range(2)]
    for at, deed in enumerate(script):
        if None in rooms:
            return None
        sight, _, behind = done(codes[0], rooms[0], deed)
        sight_other, _, behind_other = done(codes[1], rooms[1], deed)
        if sight != sight_other:
            return at
        rooms = [behind, behind_other]
    return None


def parts_at_last(codes, pair, script):
    """Whether it is the last deed by which two codes, with a secret each, are seen unlike."""
    at = first_unlike(codes, pair, script)
    return at is not None and at == len(script) - 1
