"""Guests, built for any book that lets them, by which it is shown that guards and tricks matter."""

from nomoreseen.modules import Module

# For each edge the trick that bites in just those books whose guests can have a spot of this kind.
EDGE_TRICKS = {
    "alone": "R", "below": "K", "class": "C", "frame": "S", "given": "H", "idle": "B", "wipe": "W",
}
FIRST_CALL = (("call", "e", 0, ()),)


def edge_guest(book, kind):
    """(guest, script) that is seen otherwise if the guards of this kind are taken to stand."""
    made = EDGE_GUESTS[kind]
    return made(("num", book.word))


def _guest(cells, outs, entries, classes=(), room=0):
    return Module("edge", classes, room, (), cells, outs, entries)


def looks(asked):
    """Rows that answer whether a number differs from 0; y is the answer."""
    return (("if", asked, 0, 2), ("set", "y", 1), ("back", "y"))


def _later(rows, many):
    """The rows where so many stand ahead of them."""
    return tuple([
        row[:-1] + (row[-1] + many,) if row[0] in ("if", "go", "same") else row for row in rows
    ])


def _edge_wipe(word):
    return (
        _guest((), (), (("e", "x", word, word, (("y", word),), (("set", "y", 1), ("back", "x"))),)),
        FIRST_CALL,
    )


def _edge_below(word):
    entry = ("e", "x", ("num", 1), word, (("y", word),), looks("x"))
    return (_guest((), (), (entry,)), (("call", "e", 1, ()),))


def taker(name, own, word):
    """An entry that answers whether it was given a thing."""
    inner = (("z", ("thing", own)), ("y", word))
    return (name, "x", ("thing", own), word, inner, (("same", "x", "z", 2), ("set", "y", 1), ("back", "y")))


def giver(name, own, word):
    """An entry that makes a thing and hands it out."""
    inner = (("z", ("thing", own)),)
    return (name, "x", word, ("thing", own), inner, (("make", "z", own, "x"), ("back", "z")))


def _edge_given(word):
    module = _guest((), (), (taker("e", "box", word),), (("box", word[1]),))
    return (module, (("call", "e", 1, ()),))


def _edge_class(word):
    entries = (giver("e", "jar", word), taker("f", "box", word))
    module = _guest((), (), entries, (("box", word[1]), ("jar", word[1])), 1)
    return (module, FIRST_CALL + (("call", "f", 1, ()),))


def _edge_frame(word):
    rows = (("call", "x", "g", "x"),) + _later(looks("u"), 1)
    entry = ("e", "x", word, word, (("u", word), ("y", word)), rows)
    return (_guest((), (("g", word, word),), (entry,)), FIRST_CALL + (("back", 0, ((0, 1, 1),)),))


def _edge_idle(word):
    entry = ("e", "x", word, word, (), (("back", "x"), ("call", "x", "g", "x"), ("back", "x")))
    return (_guest((), (("g", word, word),), (entry,)), (("back", 1, ()),))


def _edge_alone(word):
    rows = (("set", "n", 0), ("call", "x", "g", "x")) + _later(looks("n"), 2)
    entries = (
        ("e", "x", word, word, (("y", word),), rows),
        ("f", "x", word, word, (), (("set", "n", 1), ("back", "x"))),
    )
    module = _guest((("n", word, False),), (("g", word, word),), entries)
    return (module, FIRST_CALL + (("call", "f", 0, ()), ("back", 0, ())))


EDGE_GUESTS = {
    "alone": _edge_alone, "below": _edge_below, "class": _edge_class, "frame": _edge_frame,
    "given": _edge_given, "idle": _edge_idle, "wipe": _edge_wipe,
}
