"""Tricks, the guards against them, and the spots of a guest at which guards can matter."""

from nomoreseen.books import fits
from nomoreseen.errors import InvalidModule, InvalidSize, InvalidSpots
from nomoreseen.modules import is_own, need_book
from nomoreseen.values import is_row, is_sequence

TRICKS = ("W", "K", "H", "C", "N", "S", "B", "R")
TRICK_OF = {
    "wipe": "W", "below": "K", "given": "H", "class": "C",
    "number": "N", "frame": "S", "idle": "B", "alone": "R",
}


def trick_of(guard):
    """The trick that a guard (any value) is against."""
    if not isinstance(guard, str) or guard not in TRICK_OF:
        raise InvalidSize("guard")
    return TRICK_OF[guard]


def bites(book):
    """The tricks that some guest of this book must be guarded against."""
    need_book(book)
    biting = {
        "W": True,
        "K": book.narrow,
        "H": book.things > 0,
        "C": book.things > 1,
        "N": book.things > 0,
        "S": book.outs,
        "B": book.outs,
        "R": book.outs and not book.inside,
    }
    return tuple([trick for trick in TRICKS if biting[trick]])


def spots(book, module):
    """All spots (guard, seam) of a guest at which a guard can matter, in their order."""
    need_guest(book, module)
    entries = [entry[0] for entry in module.entries]
    answering = [entries[at] for at, steps in enumerate(module.steps) if _has_word(steps, "back")]
    called = _called_outs(module)
    outs = [out[0] for out in called]
    comes = [(entry[0], entry[2]) for entry in module.entries]
    comes.extend([(name, kind_back) for name, _, kind_back in called])
    goes = [entry[3] for entry in module.entries if entry[0] in answering]
    goes.extend([kind_in for _, kind_in, _ in called])
    given = [name for name, kind in comes if is_own(module, kind)]
    are_named = len(given) > 0 or any([is_own(module, kind) for kind in goes])
    seams = {
        "alone": entries if called and not book.inside else [],
        "below": [name for name, kind in comes if kind[0] == "num" and kind[1] < book.word],
        "given": given,
        "class": given if len(module.classes) > 1 else [],
        "frame": outs,
        "wipe": answering + outs,
        "number": [""] if are_named else [],
        "idle": [""] if called else [],
    }
    return tuple([(guard, seam) for guard in seams for seam in seams[guard]])


def need_guest(book, module):
    """Raises the error of what should be a guest of this book and is none."""
    place = fits(book, module)
    if place is not None:
        raise InvalidModule(place)


def _has_word(steps, word):
    return any([step[0] == word for step in steps])


def _called_outs(module):
    """The outs that some row calls."""
    numbers = {module.steps[entry][row][2]: True for entry, row in module.calls()}
    return [out for at, out in enumerate(module.outs) if at in numbers]


def need_spots(book, module, value):
    """Some spots (any value) as a tuple, in the order of all."""
    every = spots(book, module)
    if not is_sequence(value):
        raise InvalidSpots(-1)
    met = {}
    for at, told in enumerate(value):
        spot = tuple(told) if is_row(told, 2) else None
        if spot not in every or spot in met:
            raise InvalidSpots(at)
        met[spot] = True
    return tuple([spot for spot in every if spot in met])


def need_tricks(value):
    """Raises the error of what is no sequence of tricks (any value)."""
    if not is_sequence(value) or not all([trick in TRICKS for trick in value]):
        raise InvalidSize("tricks")


def spots_of(book, module, tricks):
    """The spots of a guest whose trick is among some (any value)."""
    every = spots(book, module)
    need_tricks(tricks)
    return tuple([spot for spot in every if TRICK_OF[spot[0]] in tricks])
