"""Which in-moves are lawful; states and moves are told rightly here."""

from nomoreseen.runs import kind_of_in_move, move_fits


def is_lawful(book, module, state, move):
    """Whether this in-move is lawful at this state."""
    if move[-1] >= book.word or (move[0] == "call" and not may_call(book, state)):
        return False
    return move_fits(module, state, move)


def may_call(book, state):
    """Whether a call may come in at this state."""
    return book.inside or not state[4]


def lawful_calls(book, module, state):
    """All calls that are lawful where one may come in, by entries, then by values."""
    moves = []
    for name, _, kind_in, _, _, _ in module.entries:
        moves.extend([("call", name, value) for value in _values(book, module, state, kind_in)])
    return tuple(moves)


def lawful_backs(book, module, state):
    """All backs that are lawful at this state, by values."""
    kind = kind_of_in_move(module, state, ("back", 0))
    if kind is None:
        return ()
    return tuple([("back", value) for value in _values(book, module, state, kind)])


def all_lawful(book, module, state):
    """All in-moves that are lawful at this state: calls, then backs."""
    calls = lawful_calls(book, module, state) if may_call(book, state) else ()
    return calls + lawful_backs(book, module, state)


def _values(book, module, state, kind):
    """All values of this kind that are let at this state and below the word, ascending."""
    word, told = kind
    _, things, handed, came, _ = state
    if word == "num":
        return list(range(min(told, book.word)))
    if told in module.foreign_at:
        return list(range(min(came[module.foreign_at[told]] + 2, book.word)))
    own = module.own_at[told]
    places = [at + 1 for at, thing in enumerate(handed) if things[thing - 1][0] == own]
    return [0] + [place for place in places if place < book.word]
