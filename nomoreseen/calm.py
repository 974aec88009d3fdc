"""Two secrets of a guest on the machine, some guards left out: papers, and scripts by which they part."""

from nomoreseen.compiler import Code
from nomoreseen.copies import explored
from nomoreseen.deeds import are_handed, are_made, are_words, call_size, is_own_frame
from nomoreseen.levels import is_closed
from nomoreseen.pairs import need_pair
from nomoreseen.rooms import Rooms
from nomoreseen.spots import need_spots, spots
from nomoreseen.states import first_state
from nomoreseen.ticks import done
from nomoreseen.values import is_tuple, tuples_throughout


def calm_paper(book, module, bare, secrets, others):
    """Some paper of two secrets, None if there is none."""
    levels = explored(_rooms(book, module, bare, secrets, others))
    return None if levels.parting is not None else (tuple(levels.opens), tuple(levels.waits))


def calm_holds(book, module, bare, secrets, others, value):
    """Whether this is a paper of two secrets (any value)."""
    rooms = _rooms(book, module, bare, secrets, others)
    if not tuples_throughout(value) or not _is_paper(rooms.code, value):
        return False
    return is_closed(rooms, value[0], value[1])


def deep_leak(book, module, bare, secrets, others):
    """Some script by whose last deed alone the sights of two secrets part, None if there is none."""
    rooms = _rooms(book, module, bare, secrets, others)
    moves = explored(rooms).way()
    return None if moves is None else script_of(rooms, moves)


def pile_steps(book, module, bare, secrets, others):
    """Some web of all waits that come: (level, call, call, level); None if the two secrets part."""
    levels = explored(_rooms(book, module, bare, secrets, others))
    if levels.parting is not None:
        return None
    numbers = {level: at for at, level in enumerate(levels.begun_by)}
    steps = {}
    for wait in levels.waits:
        level, frames, _ = wait
        one, other = frames
        steps[(numbers[level], one[0][0], other[0][0], numbers[levels.above[wait]])] = True
    return tuple(sorted(steps))


def _rooms(book, module, bare, secrets, others):
    pair = need_pair(book, module, module, secrets, others)
    left_out = need_spots(book, module, bare)
    code = Code(book, module, [spot for spot in spots(book, module) if spot not in left_out])
    cells, other_cells = [first_state(module, told)[0] for told in pair]
    return Rooms(code, cells, other_cells)


def script_of(rooms, moves):
    """The deeds of these moves, with the changes of the open frames that they ask for."""
    room = rooms.first()[0] + ((), ())
    script = []
    for move in moves:
        changes = ()
        if move[0] == "back":
            newest = len(room[4]) - 1
            changes = tuple([(newest, place, word) for place, word in enumerate(move[2])])
        deed = (move[:3] if move[0] == "call" else move[:2]) + (changes,)
        script.append(deed)
        _, _, room = done(rooms.code, room, deed)
    return tuple(script)


def _is_paper(code, value):
    """Whether these are opens and waits of two rooms of this code, each by itself."""
    if len(value) != 2 or not isinstance(value[0], tuple) or not isinstance(value[1], tuple):
        return False
    opens, waits = value
    if not all([is_tuple(told, 2) and _is_level(code, told[0]) and _are_bases(code, told[1]) for told in opens]):
        return False
    return all([
        is_tuple(told, 3) and _is_level(code, told[0]) and _are_frames(code, told[1]) and _are_bases(code, told[2])
        for told in waits
    ])


def _is_level(code, value):
    return is_tuple(value, 2) and isinstance(value[1], bool) and _are_bases(code, value[0])


def _are_bases(code, value):
    return is_tuple(value, 2) and _is_base(code, value[0]) and _is_base(code, value[1])


def _is_base(code, value):
    if not is_tuple(value, 3):
        return False
    cells, things, handed = value
    return are_words(code, cells, len(code.module.cells)) and are_made(code, things) and are_handed(code, handed)


def _are_frames(code, value):
    """Whether these are frames of calls of one out that are seen alike."""
    if not is_tuple(value, 2) or not _is_frame(code, value[0]) or not _is_frame(code, value[1]):
        return False
    one, other = value
    return one[1] == other[1] and _out_of(code, one[0][0]) == _out_of(code, other[0][0])


def _is_frame(code, value):
    if not is_tuple(value, 2) or not is_own_frame(code, value[0]):
        return False
    own, laid = value
    return laid == () if len(own) == 2 else are_words(code, laid, call_size(code, own[0]))


def _out_of(code, call):
    """The number of the out that the call of this number calls."""
    entry, row = code.call_rows[call]
    return code.module.steps[entry][row][2]
