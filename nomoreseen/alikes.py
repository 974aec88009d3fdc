"""For each trick two guests that are alike, built for any book in which it bites, and a script that parts them."""

from nomoreseen.modules import Module
from nomoreseen.pairings import FIRST_CALL, giver, looks, taker


def alike_guests(book, trick):
    """(one, other, script): alike guests, parted by the script if the guards of this trick are bare."""
    made = GUESTS[trick]
    return made(("num", book.word))


def _guest(cells, outs, entries, classes=(), room=0):
    return Module("alike", classes, room, (), cells, outs, entries)


def _answering(word, rows):
    """A guest that answers a number and calls nothing."""
    return _guest((), (), (("e", "x", word, word, (("y", word),), rows),))


def _calling(word, rows, cells=()):
    """A guest that can call out."""
    return _guest(cells, (("g", word, word),), (("e", "x", word, word, (("y", word),), rows),))


def _wiped(word):
    one = _answering(word, (("set", "y", 1), ("back", "x")))
    return (one, _answering(word, (("back", "x"),)), FIRST_CALL)


def _of_kind(word):
    entries = [("e", "x", ("num", 1), word, (("y", word),), rows) for rows in (looks("x"), (("back", "y"),))]
    return (_guest((), (), entries[:1]), _guest((), (), entries[1:]), (("call", "e", 1, ()),))


def _deaf_taker(name, own, word):
    """An entry with the doors of a taker that answers 0, whatever it was given."""
    return taker(name, own, word)[:5] + ((("back", "y"),),)


def _given(word):
    classes = (("box", word[1]),)
    one = _guest((), (), (taker("e", "box", word),), classes)
    return (one, _guest((), (), (_deaf_taker("e", "box", word),), classes), (("call", "e", 1, ()),))


def _of_class(word):
    classes = (("box", word[1]), ("jar", word[1]))
    made = giver("e", "jar", word)
    one = _guest((), (), (made, taker("f", "box", word)), classes, 1)
    other = _guest((), (), (made, _deaf_taker("f", "box", word)), classes, 1)
    return (one, other, FIRST_CALL + (("call", "f", 1, ()),))


def _numbered(word):
    classes = (("box", word[1]),)
    made = giver("e", "box", word)
    twice = made[:5] + (made[5][:1] + made[5],)
    # Each can be asked once for a thing: then all that its room lets are made.
    return (_guest((), (), (twice,), classes, 2), _guest((), (), (made,), classes, 1), FIRST_CALL)


def _framed(word):
    rows = (("call", "x", "g", "x"), ("back", "x"))
    return (_calling(word, (("set", "y", 1),) + rows), _calling(word, rows), FIRST_CALL)


def _idle(word):
    one = _calling(word, (("back", "x"), ("call", "x", "g", "x"), ("back", "x")))
    return (one, _calling(word, (("back", "x"),)), (("back", 0, ()),))


def _alone(word):
    cells = (("n", word, False),)
    rows = (("call", "x", "g", "x"), ("set", "n", 0), ("back", "x"))
    one = _calling(word, (("if", "n", 1, 3), ("set", "n", 1)) + rows, cells)
    return (one, _calling(word, rows, cells), FIRST_CALL * 2)


GUESTS = {
    "W": _wiped, "K": _of_kind, "H": _given, "C": _of_class, "N": _numbered, "S": _framed, "B": _idle, "R": _alone,
}
