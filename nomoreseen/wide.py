"""The wide reading: what strangers see, told by the guest's own rows."""

from nomoreseen.deeds import need_script
from nomoreseen.errors import Refused
from nomoreseen.forged import Wide
from nomoreseen.modules import is_own
from nomoreseen.moves import is_lawful
from nomoreseen.plays import need_in_moves
from nomoreseen.runs import answer, kind_of_in_move
from nomoreseen.spots import need_spots
from nomoreseen.states import first_state, need_secrets


def wide_sights(book, module, guards, secrets, script):
    """The sights of the deeds of a script."""
    told, _ = _read(book, module, guards, secrets, script)
    return told


def wide_rows(book, module, guards, secrets, script):
    """For each deed the rows (entry, row) gone through."""
    _, rows = _read(book, module, guards, secrets, script)
    return rows


def _read(book, module, guards, secrets, script):
    lot = need_spots(book, module, guards)
    wide = Wide(book, module, lot, need_secrets(module, secrets))
    return deeds_read(wide, need_script(book, module, script))


def deeds_read(wide, script):
    """(sights, rows gone through) of the deeds of a script; Refused for a deed behind a never."""
    told, rows = [], []
    for at, deed in enumerate(script):
        if wide.out == ("never",):
            raise Refused(at)
        told.append(wide.does(deed))
        rows.append(tuple(wide.rows))
    return (tuple(told), tuple(rows))


def honest_script(book, module, guards, secrets, moves):
    """The script that does lawful in-moves."""
    is_renamed = ("number", "") in need_spots(book, module, guards)
    state = first_state(module, need_secrets(module, secrets))
    script = []
    for at, move in enumerate(need_in_moves(module, moves)):
        if state is None or not is_lawful(book, module, state, move):
            raise Refused(at)
        word = move[-1] if is_renamed else _plain_word(module, state, move)
        script.append(move[:-1] + (word, ()))
        _, state = answer(module, state, move)
    return tuple(script)


def _plain_word(module, state, move):
    """The word by which what a move brings went out, if it is a thing of the guest, else the value itself."""
    value = move[-1]
    if value == 0 or not is_own(module, kind_of_in_move(module, state, move)):
        return value
    return state[2][value - 1]
