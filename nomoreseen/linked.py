"""A guest and surroundings in the language, run together."""

from nomoreseen.books import OUTERMOST, fits, fits_around, is_around
from nomoreseen.errors import InvalidSize, Refused
from nomoreseen.modules import need_book, need_module
from nomoreseen.runs import answer, kind_of_in_move
from nomoreseen.states import first_state, need_secrets
from nomoreseen.values import is_below


def own_run(book, guest, around, secrets, most):
    """How a run of both ends: "shows", "ends", "never" or "most"."""
    need_book(book)
    need_module(guest)
    need_module(around)
    if fits(book, guest) is not None:
        raise Refused(0)
    if fits_around(book, around) is not None:
        raise Refused(1)
    if not is_around(guest, around):
        raise Refused(2)
    state = first_state(guest, need_secrets(guest, secrets))
    if not is_below(most, 10001):
        raise InvalidSize("most")
    return _run(book, guest, around, state, most)


def _run(book, guest, around, state, most):
    amid = first_state(around, [0 for _ in around.secret_cells()])
    out, amid = answer(around, amid, ("call", OUTERMOST, 0))
    done = 0
    while amid is not None:
        if out[0] == "back" and not state[4]:
            return "ends"
        move = _gone_over(around, amid, guest, state, out)
        if not _is_in_turn(book, state, move):
            return "never"
        if done == most:
            return "most"
        done += 1
        out, state = answer(guest, state, move)
        if state is None:
            return "never"
        out, amid = answer(around, amid, _gone_over(guest, state, around, amid, out))
    return "shows" if out == ("show",) else "never"


def _is_in_turn(book, state, move):
    """Whether the guest may be called now, and what comes has a place in the word."""
    if move[0] == "call" and state[4] and not book.inside:
        return False
    return move[-1] < book.word


def _gone_over(giver, behind, taker, state, out):
    """The in-move of the taker at this state that an out-move of the giver is, told behind it."""
    told = kind_of_in_move(taker, state, out)
    return out[:-1] + (_value_over(giver, behind, taker, state, told, out[-1]),)


def _value_over(giver, behind, taker, state, kind, value):
    """How the taker is told what goes over: each module lists its own things, and counts foreign ones."""
    word, name = kind
    if word == "num" or value == 0:
        return value
    if name in giver.own_at:
        own = giver.own_at[name]
        return len([thing for thing in behind[2][:value] if behind[1][thing - 1][0] == own])
    own = taker.own_at[name]
    places = [at + 1 for at, thing in enumerate(state[2]) if state[1][thing - 1][0] == own]
    return places[value - 1]
