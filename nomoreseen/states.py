"""Secrets, states and moves as they are handed in: any values, looked at and told in tuples."""

from nomoreseen.errors import InvalidPlay, InvalidSecrets, InvalidState
from nomoreseen.values import frozen, is_below, is_number, is_row, is_sequence


def need_secrets(module, value):
    """The row of numbers of the secret cells, as a tuple."""
    secret_cells = module.secret_cells()
    if not is_row(value, len(secret_cells)):
        raise InvalidSecrets(-1)
    for at, cell in enumerate(secret_cells):
        if not is_below(value[at], module.cells[cell][1][1]):
            raise InvalidSecrets(at)
    return tuple(value)


def first_state(module, secrets):
    """The state ahead of all moves; the secrets are told rightly."""
    cells = [0] * len(module.cells)
    for at, cell in enumerate(module.secret_cells()):
        cells[cell] = secrets[at]
    return (tuple(cells), (), (), (0,) * len(module.foreign), ())


def need_state(module, value):
    """The state in tuples."""
    if not is_row(value, 5):
        raise InvalidState(-1)
    cells, things, handed, came, waiting = value
    if not _are_things(module, things):
        raise InvalidState(1)
    if not _is_list(handed, len(things)):
        raise InvalidState(2)
    if not is_row(came, len(module.foreign)) or not all([is_number(many) for many in came]):
        raise InvalidState(3)
    if not _are_held(module, things, came, [cell[1] for cell in module.cells], cells):
        raise InvalidState(0)
    if not is_sequence(waiting) or not all([is_frame(module, things, came, frame) for frame in waiting]):
        raise InvalidState(4)
    return frozen(value)


def _are_things(module, value):
    if not is_sequence(value) or len(value) > module.room:
        return False
    return all([_is_thing(module, thing) for thing in value])


def _is_thing(module, value):
    if not is_row(value, 2) or not is_below(value[0], len(module.classes)):
        return False
    return is_below(value[1], module.classes[value[0]][1])


def _is_list(value, many):
    """Whether these are unlike numbers of so many things."""
    if not is_sequence(value):
        return False
    return all([
        is_below(thing, many + 1) and thing > 0 and thing not in value[:at]
        for at, thing in enumerate(value)
    ])


def _are_held(module, things, came, kinds, value):
    """Whether variables of these kinds can hold these values."""
    if not is_row(value, len(kinds)):
        return False
    return all([_is_held(module, things, came, kind, value[at]) for at, kind in enumerate(kinds)])


def _is_held(module, things, came, kind, value):
    word, told = kind
    if word == "num":
        return is_below(value, told)
    if told in module.foreign_at:
        return is_below(value, came[module.foreign_at[told]] + 1)
    if not is_below(value, len(things) + 1):
        return False
    return value == 0 or things[value - 1][0] == module.own_at[told]


def is_frame(module, things, came, value):
    """Whether a call can wait so: (entry, row of the call, what parameter and locals hold)."""
    if not is_row(value, 3) or not is_below(value[0], len(module.entries)):
        return False
    entry, row, held = value
    steps = module.steps[entry]
    if not is_below(row, len(steps)) or steps[row][0] != "call":
        return False
    return _are_held(module, things, came, frame_kinds(module, entry), held)


def frame_kinds(module, entry):
    """The kinds of the parameter and the locals of the entry of this number."""
    _, _, kind_in, _, inner, _ = module.entries[entry]
    return [kind_in] + [kind for _, kind in inner]


def in_move(module, value):
    """The value as a tuple if it is an in-move of this module by its form, else None."""
    return _move(module.entry_numbers, value)


def out_move(module, value):
    """The value as a tuple if it is an out-move of this module by its form, else None."""
    if is_row(value, 1) and value[0] in ("never", "show"):
        return tuple(value)
    return _move(module.out_numbers, value)


def _move(doors, value):
    if is_row(value, 2) and value[0] == "back" and is_number(value[1]):
        return tuple(value)
    if not is_row(value, 3) or value[0] != "call" or not isinstance(value[1], str):
        return None
    if value[1] not in doors or not is_number(value[2]):
        return None
    return tuple(value)


def need_in_move(module, value):
    """The in-move as a tuple."""
    move = in_move(module, value)
    if move is None:
        raise InvalidPlay(0)
    return move
