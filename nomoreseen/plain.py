"""Plain runs: states, in-moves, and how a module answers them."""

from nomoreseen.errors import Refused
from nomoreseen.modules import need_module
from nomoreseen.runs import move_fits, went_through
from nomoreseen.states import first_state, need_in_move, need_secrets, need_state
from nomoreseen.trims import trim


def begin(module, secrets):
    """The state ahead of all moves."""
    need_module(module)
    return first_state(module, need_secrets(module, secrets))


def fits_move(module, state, move):
    """Whether what an in-move brings is let at this state."""
    told, asked = _need_move(module, state, move)
    return move_fits(module, told, asked)


def answered(module, state, move):
    """(out-move, state behind it), None for the state behind never and show."""
    _, out, behind = _gone(module, state, move)
    return (out, behind)


def trail(module, state, move):
    """(entry, row) of the rows gone through from this in-move to the out-move."""
    rows, _, _ = _gone(module, state, move)
    return rows


def _need_move(module, state, move):
    need_module(module)
    told = need_state(module, state)
    return (told, need_in_move(module, move))


def _gone(module, state, move):
    told, asked = _need_move(module, state, move)
    if not move_fits(module, told, asked):
        raise Refused(0)
    return went_through(module, told, asked)


def trimmed(module, state):
    """The state with its things renumbered as one first comes to them."""
    need_module(module)
    return trim(module, need_state(module, state))
