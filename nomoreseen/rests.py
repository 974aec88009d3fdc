"""The rest of a program, some of whose modules have fallen: states, moves, and answers."""

from nomoreseen.errors import InvalidPlay, Refused
from nomoreseen.turns import Rest, need_all_secrets, need_fallen, need_program
from nomoreseen.values import frozen, is_number, is_sequence


def begin_rest(program, fallen, secrets):
    """(pile of links, states, whether the main entry has begun) at first."""
    rest, told = _begun(program, fallen, secrets)
    return rest.at_first(told)


def has_turn(program, state):
    """The name of the module that has the turn."""
    need_program(program)
    rest = Rest(program, ())
    return program.modules[rest.holder(state[0])].name


def rest_moves(program, fallen, state):
    """All lawful moves of the fallen ones, ascending."""
    need_program(program)
    return tuple(Rest(program, need_fallen(program, fallen)).moves_at(state))


def rest_answered(program, fallen, state, move):
    """(answer, state behind it) of a move; None for the state behind never and over."""
    need_program(program)
    rest = Rest(program, need_fallen(program, fallen))
    told = frozen(state)
    asked = lawful_move(rest, told, move)
    if asked is None:
        raise Refused(0)
    return rest.answered_by(told, asked)


def rest_play(program, fallen, secrets, moves):
    """The answers to a row of lawful moves."""
    rest, told = _begun(program, fallen, secrets)
    answers = []
    state = rest.at_first(told)
    for at, move in enumerate(need_moves(moves)):
        asked = None if state is None else lawful_move(rest, state, move)
        if asked is None:
            raise Refused(at)
        out, state = rest.answered_by(state, asked)
        answers.append(out)
    return tuple(answers)


def need_moves(value):
    """A sequence of what should be moves (any values)."""
    if not is_sequence(value):
        raise InvalidPlay(-1)
    return value


def lawful_move(rest, state, value):
    """The value as a move, if it is one that is lawful at this state; else None."""
    if not is_sequence(value) or not value or not isinstance(value[0], str):
        return None
    if not all([is_number(part) for part in value[1:]]):
        return None
    move = tuple(value)
    return move if move in rest.moves_at(state) else None


def _begun(program, fallen, secrets):
    need_program(program)
    lost = need_fallen(program, fallen)
    return (Rest(program, lost), need_all_secrets(program, lost, secrets))
