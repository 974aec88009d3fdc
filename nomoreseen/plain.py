"""Plain runs: states, in-moves, and how a module answers them."""

from nomoreseen.errors import Refused
from nomoreseen.modules import is_own, need_module
from nomoreseen.runs import move_fits, went_through
from nomoreseen.states import first_state, frame_kinds, need_in_move, need_secrets, need_state


def begin(module, secrets):
    """The state ahead of all moves."""
    need_module(module)
    return first_state(module, need_secrets(module, secrets))


def fits_move(module, state, move):
    """Whether what an in-move brings is let at this state."""
    told, asked = _need_move(module, state, move)
    return move_fits(module, told, asked)


def answered(module, state, move):
    """(out-move, state behind it), None for the state behind never and show."""
    _, out, behind = _gone(module, state, move)
    return (out, behind)


def trail(module, state, move):
    """(entry, row) of the rows gone through from this in-move to the out-move."""
    rows, _, _ = _gone(module, state, move)
    return rows


def _need_move(module, state, move):
    need_module(module)
    told = need_state(module, state)
    return (told, need_in_move(module, move))


def _gone(module, state, move):
    told, asked = _need_move(module, state, move)
    if not move_fits(module, told, asked):
        raise Refused(0)
    return went_through(module, told, asked)


def trimmed(module, state):
    """The state with its things renumbered as one first comes to them."""
    need_module(module)
    cells, things, handed, came, waiting = need_state(module, state)
    kinds = [cell[1] for cell in module.cells]
    met = list(handed) + _things_held(module, kinds, cells)
    for entry, _, held in waiting:
        met.extend(_things_held(module, frame_kinds(module, entry), held))
    order = list({thing: True for thing in met})
    numbers = {thing: at + 1 for at, thing in enumerate(order)}
    numbers[0] = 0
    frames = tuple([
        (entry, row, _renumbered(module, frame_kinds(module, entry), held, numbers))
        for entry, row, held in waiting
    ])
    return (
        _renumbered(module, kinds, cells, numbers),
        tuple([things[thing - 1] for thing in order]) + ((0, 0),) * (len(things) - len(order)),
        tuple([numbers[thing] for thing in handed]),
        came,
        frames,
    )


def _things_held(module, kinds, held):
    """The numbers of the own things that variables of these kinds hold."""
    return [held[at] for at, kind in enumerate(kinds) if is_own(module, kind) and held[at] != 0]


def _renumbered(module, kinds, held, numbers):
    return tuple([
        numbers[held[at]] if is_own(module, kind) else held[at] for at, kind in enumerate(kinds)
    ])
