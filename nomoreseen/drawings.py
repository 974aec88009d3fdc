"""Programs, two of one frame each, by which it is shown that the guards of the switch matter."""

from nomoreseen.linker import Program
from nomoreseen.modules import Book, Module

WORD = ("num", 3)
FALLEN = ("a", "f")


def drawn(guard):
    """(program, other, fallen, script): only without this guard the script parts the two programs."""
    made = DRAWINGS[guard]
    return made()


def _entry(name, locals_told, rows):
    return (name, "x", WORD, WORD, tuple([(local, WORD) for local in locals_told]), rows)


def _module(name, cells, outs, entries):
    cells_told = [(cell, WORD, False) for cell in cells]
    return Module(name, (), 0, (), cells_told, [(out, WORD, WORD) for out in outs], entries)


def _program(parts, links):
    return Program(Book(3, False, 0, True, False), parts, links, ("a", "run"))


def _whoever():
    """b never calls c with anything but 0; c tells f what it was called with, or 0."""
    links = (("a", "o", "b", "e"), ("b", "o", "c", "e"), ("c", "o", "f", "e"))
    rows = (("call", "t", "o", "z"), ("back", "t"))
    telling = (("call", "t", "o", "x"), ("back", "t"))
    programs = []
    for rows_of_c in (telling, rows):
        programs.append(_program((
            _module("a", (), ("o",), (_entry("run", (), (("back", "x"),)),)),
            _module("b", (), ("o",), (_entry("e", ("t", "z"), rows),)),
            _module("c", (), ("o",), (_entry("e", ("t", "z"), rows_of_c),)),
            _module("f", (), (), (_entry("e", (), (("back", "x"),)),)),
        ), links))
    return (programs[0], programs[1], FALLEN, (("a", "call", 1, 1),))


def _amid(script):
    """While b has called f, c keeps 1, or it does not; nobody but a can look at it, who waits for b."""
    links = (("a", "o", "b", "e"), ("b", "p", "c", "put"), ("b", "q", "f", "e"), ("a", "s", "c", "peek"))
    calls = (("set", "t", 1), ("call", "t", "p", "t"), ("call", "t", "q", "z"), ("call", "t", "p", "z"), ("back", "z"))
    programs = []
    for rows in ((("copy", "n", "x"), ("back", "x")), (("back", "x"),)):
        programs.append(_program((
            _module("a", (), ("o", "s"), (_entry("run", (), (("back", "x"),)),)),
            _module("b", (), ("p", "q"), (_entry("e", ("t", "z"), calls),)),
            _module("c", ("n",), (), (_entry("put", (), rows), _entry("peek", (), (("back", "n"),)))),
            _module("f", (), (), (_entry("e", (), (("back", "x"),)),)),
        ), links))
    return (programs[0], programs[1], FALLEN, script)


def _turned():
    return _amid((("a", "call", 0, 0), ("a", "call", 3, 0)))


def _skipped():
    # The back along the oldest link takes all above it off the pile, and a has the turn again.
    return _amid((("a", "call", 0, 0), ("f", "back", 0, 0), ("a", "call", 3, 0)))


DRAWINGS = {"who": _whoever, "backof": _skipped, "turn": _turned}
