"""(Module linked.) A guest and surroundings, run together."""

import unittest

from nomoreseen.errors import InvalidBook, InvalidModule, InvalidSecrets, InvalidSize, Refused
from nomoreseen.linked import own_run
from nomoreseen.modules import Book, Module
from nomoreseen.texts import read_module
from tests.anything import caught, no_numbers, values

BOOK = Book(3, True, 2, True, False)
INSIDE = Book(3, True, 2, True, True)

GUEST = """module m
class box 2
class jar 3
room 2
foreign far
secret z num 3
cell v thing box
cell q thing far
out g num 3 num 3
out h thing far thing box
entry e x num 3 num 3
add x 1
back x
entry s x num 3 num 3
back z
entry o x num 3 num 3
call x g x
add x 1
back x
entry bb x num 2 thing box
make v box x
back v
entry j x num 3 thing jar
local t thing jar
make t jar x
back t
entry r x thing box num 2
local k num 2
read k x
back k
entry f x thing far num 3
local k num 3
same x q 3
copy q x
back k
set k 1
back k
entry old x num 3 thing box
back v
entry p x num 3 num 3
call v h q
back x
entry l x num 3 num 3
go 0"""

OUTS = """out e num 3 num 3
out s num 3 num 3
out o num 3 num 3
out bb num 2 thing box
out j num 3 thing jar
out r thing box num 2
out f thing far num 3
out p num 3 num 3
out old num 3 thing box
out l num 3 num 3
"""


def amid(rows, inner="", room=9, cells="", g="set y 1\nback y", h="local t thing box\nback t"):
    """Surroundings of the guest whose main has these rows."""
    return read_module(
        f"module a\nclass far 3\nroom {room}\nforeign box\nforeign jar\n{cells}{OUTS}entry main x num 3 num 3\n{inner}{rows}\n"
        f"entry g y num 3 num 3\n{g}\nentry h z thing far thing box\n{h}"
    )


class Runs(unittest.TestCase):
    def setUp(self):
        self.guest = read_module(GUEST)

    def run_of(self, rows, inner="", book=BOOK, secrets=(0,), most=50, **parts):
        return own_run(book, self.guest, amid(rows, inner, **parts), secrets, most)

    def test_shows_and_ends(self):
        self.assertEqual(self.run_of("show", most=0), "shows")
        self.assertEqual(self.run_of("back x", most=0), "ends")
        self.assertEqual(self.run_of("call x e x\nif x 1 3\nback x\nshow"), "shows")
        self.assertEqual(self.run_of("call x e x\nif x 2 3\nback x\nshow"), "ends")
        self.assertEqual(self.run_of("if x 0 2\ngo 1\nshow"), "shows")

    def test_secrets(self):
        for secret in range(3):
            for other in range(3):
                told = self.run_of(f"call x s x\nif x {secret} 3\nback x\nshow", secrets=[other])
                self.assertEqual(told, "shows" if secret == other else "ends")

    def test_cells_of_surroundings_begin_with_0(self):
        cells = "secret a num 3\ncell b num 3\n"
        self.assertEqual(self.run_of("if a 0 2\ngo 1\nif b 0 4\ngo 1\nshow", cells=cells), "shows")

    def test_never(self):
        self.assertEqual(self.run_of("go 0"), "never")
        self.assertEqual(self.run_of("call x l x\nshow"), "never")
        # Surroundings read the field of none.
        self.assertEqual(self.run_of("read k t\nshow", inner="local t thing far\nlocal k num 3\n"), "never")
        # The guest reads the field of none.
        inner = "local t thing box\nlocal k num 2\n"
        self.assertEqual(self.run_of("call k r t\nshow", inner=inner), "never")
        # No room is left in the guest, or in the surroundings.
        inner = "local t thing jar\n"
        self.assertEqual(self.run_of("call t j x\ncall t j x\nshow", inner=inner), "shows")
        self.assertEqual(self.run_of("call t j x\ncall t j x\ncall t j x\nshow", inner=inner), "never")
        inner = "local t thing far\n"
        self.assertEqual(self.run_of("make t far x\nshow", inner=inner, room=0), "never")
        self.assertEqual(self.run_of("make t far x\nshow", inner=inner, room=1), "shows")

    def test_calls_out(self):
        self.assertEqual(self.run_of("call x o x\nif x 2 3\nback x\nshow"), "shows")
        self.assertEqual(self.run_of("call x o x\nshow", g="go 0"), "never")
        self.assertEqual(self.run_of("call x o x\nback x", g="show"), "shows")
        self.assertEqual(self.run_of("set x 2\ncall x o x\nback x", g="if y 2 2\nback y\nshow"), "shows")

    def test_called_while_a_call_waits(self):
        rows = "call x o x\nif x 2 3\nback x\nshow"
        g = "call y e y\nback y"
        self.assertEqual(self.run_of(rows, g=g), "never")
        self.assertEqual(self.run_of(rows, g=g, book=INSIDE), "shows")
        # A call inside that is refused is never, however few in-moves may be done.
        self.assertEqual(self.run_of(rows, g=g, most=1), "never")
        self.assertEqual(self.run_of(rows, g=g, book=INSIDE, most=1), "most")
        self.assertEqual(self.run_of("call x o x\nshow", g="call y o y\nback y", book=INSIDE, most=10000), "most")

    def test_main_answers_though_functions_did(self):
        # Answers of functions are no answers of main.
        self.assertEqual(self.run_of("call x o x\ncall x o x\nshow", g="back y"), "shows")

    def test_most(self):
        rows = "call x e x\ncall x e x\ncall x e x\nshow"
        self.assertEqual([self.run_of(rows, most=most) for most in range(5)], ["most", "most", "most", "shows", "shows"])
        # Backs in are in-moves, too.
        rows = "call x o x\nback x"
        self.assertEqual([self.run_of(rows, most=most) for most in range(4)], ["most", "most", "ends", "ends"])
        self.assertEqual(self.run_of("call x e x\ngo 0", most=10000), "most")
        self.assertEqual(self.run_of("go 0", most=0), "never")
        self.assertEqual(self.run_of("call x l x\nshow", most=0), "most")
        self.assertEqual(self.run_of("call x l x\nshow", most=1), "never")

    def test_things_go_over_as_what_they_are(self):
        inner = "local t thing box\nlocal u thing box\nlocal j thing jar\nlocal i thing jar\nlocal k num 2\n"
        # A jar goes out ahead of the box: its place is the second, but it is the first box.
        rows = "call j j x\nset k 1\ncall t bb k\nset k 0\ncall k r t\nif k 1 7\nback x\nshow"
        self.assertEqual(self.run_of(rows, inner=inner), "shows")
        # Two boxes are unlike, and one handed out again is the same.
        self.assertEqual(self.run_of("call t bb k\ncall u bb k\nsame t u 4\nshow\nback x", inner=inner), "shows")
        # Behind a jar the first box goes out again: it is still the first one.
        self.assertEqual(self.run_of("call t bb k\ncall j j x\ncall u old x\nsame t u 5\nback x\nshow", inner=inner), "shows")
        rows = "call t bb k\nset x 1\ncall x p x\nback x"
        self.assertEqual(self.run_of(rows, inner=inner, h="local b thing box\nsame z z 2\nback b\nshow"), "shows")

    def test_things_come_back_to_their_places(self):
        inner = "local t thing box\nlocal u thing box\nlocal j thing jar\nlocal k num 2\n"
        # The second box of two, behind a first one.
        rows = "call t bb k\nset k 1\ncall u bb k\ncall k r t\nif k 0 6\nback x\ncall k r u\nif k 1 9\nback x\nshow"
        self.assertEqual(self.run_of(rows, inner=inner), "shows")

    def test_foreign_things(self):
        inner = "local t thing far\nlocal u thing far\n"
        # The guest keeps the newest; asked again with the same one it answers 1.
        rows = "make t far x\nmake u far x\ncall x f u\nif x 0 5\nback x\ncall x f u\nif x 1 8\nback x\n" \
            "call x f t\nif x 0 11\nback x\ncall x f u\nif x 0 14\nback x\nshow"
        self.assertEqual(self.run_of(rows, inner=inner), "shows")
        # What the guest gives back is the very thing; things that never went over are not counted.
        cells = "cell q thing far\ncell n thing far\n"
        rows = "make n far x\nmake q far x\ncall x f q\ncall x p x\nback x"
        self.assertEqual(self.run_of(rows, cells=cells, h="local b thing box\nsame z q 2\nback b\nshow"), "shows")
        self.assertEqual(self.run_of(rows, cells=cells, h="local b thing box\nsame z n 2\nback b\nshow"), "ends")

    def test_places_beyond_the_word(self):
        inner = "local t thing far\n"
        rows = "make t far x\ncall x f t\n"
        self.assertEqual(self.run_of(rows * 2 + "show", inner=inner), "shows")
        self.assertEqual(self.run_of(rows * 3 + "show", inner=inner), "never")
        self.assertEqual(self.run_of(rows * 3 + "show", inner=inner, most=2), "never")
        self.assertEqual(self.run_of(rows * 2 + "call x f t\nshow", inner=inner), "shows")


class Wrong(unittest.TestCase):
    def setUp(self):
        self.guest = read_module(GUEST)
        self.amid = amid("show")

    def test_in_order(self):
        told = [BOOK, self.guest, self.amid, (0,), 5]
        self.assertEqual(own_run(*told), "shows")
        named = dict(zip(("book", "guest", "around", "secrets", "most"), told))
        self.assertEqual(own_run(**named), "shows")
        for value in values():
            if not isinstance(value, Book):
                self.assertEqual(caught(InvalidBook, own_run, value, value, value, value, value), "book")
            if isinstance(value, Module):
                continue
            self.assertEqual(caught(InvalidModule, own_run, BOOK, value, None, None, None), ("module",))
            self.assertEqual(caught(InvalidModule, own_run, BOOK, self.guest, value, None, None), ("module",))
            # Even ahead of a module that is no guest.
            self.assertEqual(caught(InvalidModule, own_run, Book(3, True, 0, False, False), self.guest, value, None, None), ("module",))
        for value in values():
            if not isinstance(value, (tuple, list)) or len(value) != 1:
                self.assertEqual(caught(InvalidSecrets, own_run, BOOK, self.guest, self.amid, value, None), -1)
            if type(value) is not int or not 0 <= value < 3:
                self.assertEqual(caught(InvalidSecrets, own_run, BOOK, self.guest, self.amid, (value,), None), 0)
        for value in no_numbers(10000):
            self.assertEqual(caught(InvalidSize, own_run, BOOK, self.guest, self.amid, (0,), value), "most")

    def test_refused(self):
        strict = Book(3, False, 2, True, False)
        other = read_module("module o\nroom 0\nentry main x num 4 num 4\nback x")
        self.assertEqual(caught(Refused, own_run, strict, self.guest, other, None, None), 0)
        self.assertEqual(caught(Refused, own_run, BOOK, self.guest, other, None, None), 1)
        self.assertEqual(caught(Refused, own_run, BOOK, self.guest, self.guest, None, None), 1)
        lonely = read_module("module o\nroom 0\nentry main x num 3 num 3\nback x")
        self.assertEqual(caught(Refused, own_run, BOOK, self.guest, lonely, None, None), 2)
        self.assertEqual(caught(Refused, own_run, BOOK, self.amid, self.amid, None, None), 0)


if __name__ == "__main__":
    unittest.main()
