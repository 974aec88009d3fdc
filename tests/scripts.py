"""Random guards and scripts for the tests; the same ones for the same seed."""

from nomoreseen.machine import entered, first_room
from nomoreseen.spots import spots


def random_guards(rng, book, module):
    chance = rng.choice((0, 0.3, 0.5, 0.8, 1))
    return tuple(spot for spot in spots(book, module) if rng.random() < chance)


def random_deed(rng, code, room):
    """Some deed; changes mostly of what is there."""
    word = rng.randrange(code.book.word)
    changes = []
    for _ in range(rng.choice((0, 0, 0, 1, 2))):
        frame = rng.randrange(len(room[4]) + 1)
        place = rng.randrange(len(room[4][frame]) + 1) if frame < len(room[4]) else rng.randrange(3)
        changes.append((frame, place, rng.randrange(code.book.word)))
    if rng.random() < (0.7 if room[3] else 0.1):
        return ("back", word, tuple(changes))
    return ("call", rng.choice(code.module.entries)[0], word, tuple(changes))


def random_script(rng, code, secrets, most):
    """Some script of at most so many deeds, none of them behind a never."""
    room, script = first_room(code, secrets), []
    while room is not None and len(script) < most:
        script.append(random_deed(rng, code, room))
        _, room = entered(code, room, script[-1])
    return tuple(script)
