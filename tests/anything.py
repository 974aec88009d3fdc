"""Any values, as promise 1 tells them, and the check that each of them raises one error."""

from nomoreseen.linker import Program
from nomoreseen.modules import Book, Module

NUM = ("num", 3)
BOOK = Book(3, True, 2, True, False)
MODULE = Module("m", (), 0, (), (), (), (("e", "x", NUM, NUM, (), (("back", "x"),)),))
CALLER = Module("n", (), 0, (), (), (("g", NUM, NUM),), (("e", "x", NUM, NUM, (), (("call", "x", "g", "x"), ("back", "x"))),))
PROGRAM = Program(Book(3, False, 0, True, False), (MODULE, CALLER), (("n", "g", "m", "e"),), ("n", "e"))


def nested(value, deep):
    for _ in range(deep):
        value = (value,)
    return value


def values():
    """Fresh ones at each call, so that nothing can be kept of them."""
    return [
        0, 1, 2, -1, -2, 3, 12, 13, 10 ** 20, True, False, None, "", "e", "m", "main", "never", "num", "0", "a b", "\n",
        (), [], (0,), [0], (1, 2), [1, 2], (True,), (None,), ("e",), ("call",), ("call", "e"), ("call", "e", 0), ("back", 0),
        ["back", True], ("never",), ("show",), (0, 0, 0), ((), (), (), (), ()), [[], [], [], [], []], ((0,), (), (), (), ()),
        nested(1, 12), [[[[[["x"]]]]]], ("m", "e"), (("m",), "e"), ((1, 2, 3, 4),), (1, ((0, 1, 1, 0),)), (2, [[0, 1, 1, 5]]),
        (((),), ((True,),)), BOOK, MODULE, PROGRAM, (BOOK, MODULE), [PROGRAM], "book 3 narrow things 0 alone", "call e 0",
    ]


def no_numbers(most):
    """Values that are no number up to this one."""
    told = values() + [-1, most + 1, 10 ** 30]
    return [value for value in told if type(value) is not int or not 0 <= value <= most]


def caught(wanted, call, *told, **named):
    """The first argument that the error keeps which this call must raise."""
    try:
        result = call(*told, **named)
    except wanted as error:
        assert type(error) is wanted, (type(error), wanted)
        return next(iter(vars(error).values()))
    raise AssertionError(f"{wanted.__name__} was not raised by {call} of {told} {named}, but {result!r} came")
