"""Guests that are alike, or not, whatever waits: papers, and plays by which they part."""

from nomoreseen.copies import Copies, explored
from nomoreseen.errors import InvalidState
from nomoreseen.levels import is_closed
from nomoreseen.pairs import need_pair
from nomoreseen.states import first_state, is_frame, need_state
from nomoreseen.values import is_tuple, tuples_throughout


def alike_paper(book, one, other, secrets, others):
    """Some paper of two guests with secrets, None if there is none."""
    levels = explored(_copies(book, one, other, secrets, others))
    return None if levels.parting is not None else (tuple(levels.opens), tuple(levels.waits))


def deep_play(book, one, other, secrets, others):
    """Some row of lawful moves of which just the last one is answered unlike, None if there is none."""
    return explored(_copies(book, one, other, secrets, others)).way()


def alike_holds(book, one, other, secrets, others, value):
    """Whether this is a paper of two guests with secrets (any value)."""
    copies = _copies(book, one, other, secrets, others)
    if not tuples_throughout(value) or not _is_paper(one, other, value):
        return False
    return is_closed(copies, value[0], value[1])


def _copies(book, one, other, secrets, others):
    told, told_others = need_pair(book, one, other, secrets, others)
    return Copies(book, one, other, (first_state(one, told), first_state(other, told_others)))


def _is_paper(one, other, value):
    """Whether these are opens and waits of two guests, each by itself."""
    if len(value) != 2 or not isinstance(value[0], tuple) or not isinstance(value[1], tuple):
        return False
    opens, waits = value
    if not all([is_tuple(told, 2) and _is_level(one, other, told[0]) for told in opens]):
        return False
    if not all([_are_bases(one, other, told[1]) for told in opens]):
        return False
    if not all([is_tuple(told, 3) and _is_level(one, other, told[0]) for told in waits]):
        return False
    later = {}
    for level, bases in opens:
        later.setdefault(level, []).append(bases)
    return all([_is_wait(one, other, told, later) for told in waits])


def _is_level(one, other, value):
    return is_tuple(value, 2) and isinstance(value[1], bool) and _are_bases(one, other, value[0])


def _are_bases(one, other, value):
    """Whether these are bases of both, who have handed out and got the same."""
    if not is_tuple(value, 2) or not _is_base(one, value[0]) or not _is_base(other, value[1]):
        return False
    return _handed_classes(value[0]) == _handed_classes(value[1]) and value[0][3] == value[1][3]


def _is_base(module, value):
    if not is_tuple(value, 4):
        return False
    try:
        need_state(module, value + ((),))
    except InvalidState:
        return False
    return True


def _handed_classes(base):
    _, things, handed, _ = base
    return [things[thing - 1][0] for thing in handed]


def _is_wait(one, other, wait, later):
    """Whether the frames are such at the bases, and at all bases of the level above them."""
    _, frames, bases = wait
    if not _are_bases(one, other, bases) or not is_tuple(frames, 2):
        return False
    if not all([_are_frames(one, other, frames, at) for at in [bases] + later.get((bases, True), [])]):
        return False
    return _out_of(one, frames[0]) == _out_of(other, frames[1])


def _are_frames(one, other, frames, bases):
    return _is_frame_at(one, frames[0], bases[0]) and _is_frame_at(other, frames[1], bases[1])


def _is_frame_at(module, frame, base):
    _, things, _, came = base
    return is_frame(module, things, came, frame)


def _out_of(module, frame):
    """The number of the out that a frame calls."""
    return module.steps[frame[0]][frame[1]][2]
