"""Pairs of guests looked at slowly, for the tests: raw states, and papers by the words of the document."""

from nomoreseen.plain import answered, begin
from tests.makers import lawful_moves


def shortest(book, one, other, secrets, others, most=400):
    """(fewest moves that part, None if none do; whether all was looked at)."""
    first = begin(one, secrets), begin(other, others)
    seen, layer, moves = {first}, [first], 0
    while layer:
        moves += 1
        behind = []
        for pair in layer:
            for move in lawful_moves(book, one, pair[0]):
                out, after = answered(one, pair[0], move)
                told, later = answered(other, pair[1], move)
                if out != told:
                    return moves, True
                if after is not None and (after, later) not in seen:
                    seen.add((after, later))
                    behind.append((after, later))
        if len(seen) > most:
            return None, False
        layer = behind
    return None, True


def parts(book, one, other, secrets, others, moves):
    """Whether these are lawful moves of which just the last one is answered unlike."""
    state, later = begin(one, secrets), begin(other, others)
    for at, move in enumerate(moves):
        if state is None or move not in lawful_moves(book, one, state) or move not in lawful_moves(book, other, later):
            return False
        (out, state), (told, later) = answered(one, state, move), answered(other, later, move)
        if (out != told) != (at == len(moves) - 1):
            return False
    return len(moves) > 0


def asked(book, modules, bases, frames, waits):
    """(move, word, frames, bases) of all lawful moves at bases: calls in, or backs into frames."""
    waiting = [() if frames is None else (frame,) for frame in frames or (None, None)]
    states = [tuple(base) + (told,) for base, told in zip(bases, waiting)]
    for move in lawful_moves(book, modules[0], states[0]):
        if (move[0] == "back") != (frames is not None) or (move[0] == "call" and waits and not book.inside):
            continue
        (out, behind), (told, later) = answered(modules[0], states[0], move), answered(modules[1], states[1], move)
        if out != told:
            yield move, "unlike", None, None
        elif behind is not None:
            called = out[0] == "call"
            yield move, out[0], (behind[4][-1], later[4][-1]) if called else None, (behind[:4], later[:4])


def is_paper(book, modules, first, value):
    """Whether opens and waits that are such by their form are closed, read off the words of [36]."""
    opens, waits = set(value[0]), set(value[1])
    bases = first[0][:4], first[1][:4]
    wanted_opens, wanted_waits = {((bases, False), bases)}, set()

    def want(level, word, frames, behind):
        if word == "back":
            wanted_opens.add((level, behind))
        if word == "call":
            wanted_waits.add((level, frames, behind))
        return word != "unlike"

    right = True
    for level, here in opens:
        for _, word, frames, behind in asked(book, modules, here, None, level[1]):
            right = want(level, word, frames, behind) and right
    for level, frames, here in waits:
        wanted_opens.add(((here, True), here))
        for above, later in opens:
            if above == (here, True):
                for _, word, more, behind in asked(book, modules, later, frames, True):
                    right = want(level, word, more, behind) and right
    return right and wanted_opens <= opens and wanted_waits <= waits
