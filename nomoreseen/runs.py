"""Plain runs of moves and states that are told rightly: nothing is looked at again here."""


def kind_of_in_move(module, state, move):
    """The kind of what an in-move brings; None for a back if no call waits."""
    if move[0] == "call":
        return module.entries[module.entry_numbers[move[1]]][2]
    waiting = state[4]
    if not waiting:
        return None
    entry, row, _ = waiting[-1]
    return module.outs[module.steps[entry][row][2]][2]


def move_fits(module, state, move):
    """Whether what an in-move brings is let at this state."""
    kind = kind_of_in_move(module, state, move)
    if kind is None:
        return False
    word, told = kind
    value = move[-1]
    _, things, handed, came, _ = state
    if word == "num":
        return value < told
    if told in module.foreign_at:
        return value <= came[module.foreign_at[told]] + 1
    if value == 0:
        return True
    return value <= len(handed) and things[handed[value - 1] - 1][0] == module.own_at[told]


def went_through(module, state, move):
    """(rows gone through, out-move, state behind it) of an in-move that is let; rows are (entry, row)."""
    held_in, came = _brought_in(module, state, kind_of_in_move(module, state, move), move[-1])
    entry, row, held, waiting = _started(module, state, move, held_in)
    things = list(state[1])
    rows, is_over = _stretch(module.steps[entry], row, held, things, module.room)
    trail = tuple([(entry, at) for at in rows])
    if not is_over:
        return (trail, ("never",), None)
    behind = (tuple(held), tuple(things), state[2], came, waiting)
    out, after = _gone_out(module, entry, rows[-1], behind)
    return (trail, out, after)


def answer(module, state, move):
    """(out-move, state behind it) of an in-move that is let."""
    _, out, behind = went_through(module, state, move)
    return (out, behind)


def _brought_in(module, state, kind, value):
    """(what a variable holds of the value that comes in, how many foreign things came then)."""
    _, _, handed, came, _ = state
    word, told = kind
    if word == "num" or value == 0:
        return (value, came)
    if told in module.own_at:
        return (handed[value - 1], came)
    at = module.foreign_at[told]
    return (value, came[:at] + (max(came[at], value),) + came[at + 1:])


def _started(module, state, move, held_in):
    """(entry, row, what its variables hold, calls that wait) where an in-move lets the rows go on."""
    cells, _, _, _, waiting = state
    if move[0] == "call":
        entry = module.entry_numbers[move[1]]
        inner = module.entries[entry][4]
        return (entry, 0, list(cells) + [held_in] + [0] * len(inner), waiting)
    entry, row, frame = waiting[-1]
    held = list(cells) + list(frame)
    held[module.steps[entry][row][1]] = held_in
    return (entry, row + 1, held, waiting[:-1])


def _stretch(steps, row, held, things, room):
    """(rows gone through, whether the last one goes out or shows); what is held and things change."""
    seen = set()
    rows = []
    while row is not None:
        ahead = (row, tuple(held), tuple(things))
        if ahead in seen:
            return (rows, False)
        seen.add(ahead)
        rows.append(row)
        if steps[row][0] in ("call", "back", "show"):
            return (rows, True)
        row = _row_behind(steps[row], row, held, things, room)
    return (rows, False)


def _row_behind(step, row, held, things, room):
    """The number of the row that is next, None if there is none for ever; what is held and things change."""
    word = step[0]
    if word == "go":
        return step[1]
    first = step[1]
    if word == "if":
        return step[3] if held[first] == step[2] else row + 1
    if word == "same":
        return step[3] if held[first] == held[step[2]] else row + 1
    if word in ("make", "read", "write"):
        return row + 1 if _is_done(step, held, things, room) else None
    if word == "set":
        held[first] = step[2]
    elif word == "copy":
        held[first] = held[step[2]]
    else:
        held[first] = (held[first] + step[2]) % step[3]
    return row + 1


def _is_done(step, held, things, room):
    """Does a row that makes, reads or writes; False if it cannot be done."""
    word = step[0]
    if word == "make":
        if len(things) >= room:
            return False
        things.append((step[2], held[step[3]]))
        held[step[1]] = len(things)
        return True
    thing = held[step[2]] if word == "read" else held[step[1]]
    if thing == 0:
        return False
    own, field = things[thing - 1]
    if word == "read":
        held[step[1]] = field
    else:
        things[thing - 1] = (own, held[step[2]])
    return True


def _gone_out(module, entry, row, behind):
    """(out-move, state) behind the row that goes out."""
    held, things, handed, came, waiting = behind
    step = module.steps[entry][row]
    if step[0] == "show":
        return (("show",), None)
    many = len(module.cells)
    if step[0] == "back":
        value, handed = _taken_out(module, module.entries[entry][3], held[step[1]], handed)
        return (("back", value), (held[:many], things, handed, came, waiting))
    name, kind_in, _ = module.outs[step[2]]
    value, handed = _taken_out(module, kind_in, held[step[3]], handed)
    waiting = waiting + ((entry, row, held[many:]),)
    return (("call", name, value), (held[:many], things, handed, came, waiting))


def _taken_out(module, kind, held, handed):
    """(the number that tells what goes out, the list behind it)."""
    word, told = kind
    if word == "num" or held == 0 or told in module.foreign_at:
        return (held, handed)
    if held not in handed:
        handed = handed + (held,)
    return (handed.index(held) + 1, handed)
