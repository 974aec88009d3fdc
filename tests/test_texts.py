"""[10] Texts of modules, books and plays."""

import random
import unittest

from nomoreseen.errors import InvalidBook, InvalidModule, InvalidPlay, InvalidText
from nomoreseen.modules import Book
from nomoreseen.texts import book_text, module_text, play_text, read_book, read_module, read_play
from tests.anything import BOOK, MODULE, caught, values
from tests.makers import random_book, random_doors, random_guest

WHOLE = """module all
class box 3
class jar 16
room 99
foreign far
foreign off
cell c num 3
secret s num 2
cell b thing box
cell q thing far
out g num 2 thing box
out h thing far num 3
entry e x num 3 num 2
local k num 3
local y thing box
local z thing far
local box num 2
set k 2
copy k x
add k 1
if c 0 0
go 5
make b box k
read k b
write b k
same z q 12
call y g box
call k h z
back s
show
entry f x thing off thing jar
local w thing jar
go 1
back w"""


def spaced(rng, text):
    """The text with more blanks between, ahead of and behind words."""
    lines = []
    for line in text.split("\n"):
        words = [" " * rng.randrange(3) + word for word in line.split(" ")]
        lines.append(" ".join(words) + " " * rng.randrange(3))
    return "\n".join(lines)


class Modules(unittest.TestCase):
    def test_told(self):
        made = read_module(WHOLE)
        self.assertEqual(module_text(made), WHOLE)
        self.assertEqual(made.told[:6], (
            "all", (("box", 3), ("jar", 16)), 99, ("far", "off"),
            (("c", ("num", 3), False), ("s", ("num", 2), True), ("b", ("thing", "box"), False), ("q", ("thing", "far"), False)),
            (("g", ("num", 2), ("thing", "box")), ("h", ("thing", "far"), ("num", 3))),
        ))
        self.assertEqual(made.entries[0][:4], ("e", "x", ("num", 3), ("num", 2)))
        self.assertEqual(made.entries[0][4][1], ("y", ("thing", "box")))
        self.assertEqual(made.entries[0][5][3:9], (
            ("if", "c", 0, 0), ("go", 5), ("make", "b", "box", "k"), ("read", "k", "b"), ("write", "b", "k"),
            ("same", "z", "q", 12),
        ))
        self.assertEqual(made.entries[1], (
            "f", "x", ("thing", "off"), ("thing", "jar"), (("w", ("thing", "jar")),), (("go", 1), ("back", "w")),
        ))

    def test_smallest(self):
        text = "module m\nroom 0\nentry e x num 1 num 16\nshow"
        self.assertEqual(module_text(module=read_module(text=text)), text)
        self.assertEqual(read_module(text).told, ("m", (), 0, (), (), (), (("e", "x", ("num", 1), ("num", 16), (), (("show",),)),)))

    def test_there_and_back(self):
        rng = random.Random(10)
        for _ in range(150):
            book = random_book(rng)
            made = random_guest(rng, book, random_doors(rng, book))
            text = module_text(made)
            self.assertEqual(read_module(text).told, made.told)
            self.assertEqual(read_module(spaced(rng, text)).told, made.told)
            self.assertEqual(module_text(read_module(text)), text)

    def test_names_as_words_of_texts(self):
        # Names may be called as lines and rows are: their places tell what they are.
        text = "module module\nclass class 2\nroom 1\ncell room num 2\nout out num 2 thing class\n" \
            "entry entry num num 2 num 2\nlocal local num 2\nlocal set thing class\n" \
            "set local 1\ncall set out num\nmake set class local\nback room"
        self.assertEqual(module_text(read_module(text)), text)

    def test_no_string(self):
        for value in values():
            if not isinstance(value, str):
                self.assertEqual(caught(InvalidText, read_module, value), -1)
                self.assertEqual(caught(InvalidText, read_book, value), -1)
                self.assertEqual(caught(InvalidText, read_play, MODULE, value), -1)
            if value is not MODULE:
                self.assertEqual(caught(InvalidModule, module_text, value), ("module",))
                self.assertEqual(caught(InvalidModule, play_text, value, None), ("module",))
                self.assertEqual(caught(InvalidModule, read_play, value, None), ("module",))
            if value is not BOOK:
                self.assertEqual(caught(InvalidBook, book_text, value), "book")

    def test_wrong_lines(self):
        # For each line of the whole text, some that cannot stand in its place.
        lines = WHOLE.split("\n")
        for at, line in enumerate(lines):
            wrongs = ["", "   ", line + " x", line + " 0", line.upper(), " ".join(line.split(" ")[:-1]), "\t" + line, "x", "0"]
            wrongs += ["module m"] * (at > 0) + ["room 5"] * (at != 1 and at != 2 and at != 3) + ["class new 3"] * (at in (0, *range(4, 34)))
            for wrong in wrongs:
                text = "\n".join(lines[:at] + [wrong] + lines[at + 1:])
                self.assertEqual(caught(InvalidText, read_module, text), at, (at, wrong))
                text = "\n".join(lines[:at] + [wrong])
                self.assertEqual(caught(InvalidText, read_module, text), at, (at, wrong))

    def line_after(self, ahead, wrong):
        """wrong cannot stand behind so many first lines of the whole text."""
        lines = WHOLE.split("\n")[:ahead] + [wrong, "?"]
        self.assertEqual(caught(InvalidText, read_module, "\n".join(lines)), ahead, wrong)

    def test_wrong_parts(self):
        for wrong in ("module", "module a b", "module abcdefghi", "module A", "module 3", "module a1", "modul m", "m"):
            self.line_after(0, wrong)
        for wrong in ("class box 3", "class x 0", "class x 17", "class x", "class x y", "class 3 3", "class x 03", "foreign x"):
            self.line_after(2, wrong)
        for wrong in ("room 100", "room 00", "room 1234567890", "entry e x num 3 num 3", "cell k num 2", "out o num 2 num 2"):
            self.line_after(3, wrong)
        for wrong in ("foreign box", "foreign far", "foreign", "foreign 0", "class x 3", "room 3"):
            self.line_after(5, wrong)
        for wrong in ("cell far num 2", "cell c num 2", "cell k num 0", "cell k num 17", "cell k thing no", "secret k thing box",
                      "secret k thing far", "cell k num", "cell k box", "cell k num 02", "secret k 2", "foreign x", "cell k 2 num"):
            self.line_after(8, wrong)
        for wrong in ("out c num 2 num 2", "out k num 2", "out k num 2 thing no", "out k num 0 num 2", "cell k num 2", "foreign x"):
            self.line_after(11, wrong)
        for wrong in ("entry g x num 2 num 2", "entry k c num 2 num 2", "entry k x num 2", "entry k x num 2 thing no",
                      "entry k x 2 num 2 num", "entry K x num 2 num 2", "entry k 0 num 2 num 2", "local l num 2", "go 0"):
            self.line_after(12, wrong)
        for wrong in ("local x num 2", "local k num 2", "local c num 2", "local l thing no", "local l num", "local 1 num 2"):
            self.line_after(14, wrong)
        for wrong in ("set k 3", "set k 02", "set no 0", "set k k", "copy k s", "add y 0", "if k 0", "if k 3 0", "if k 0 x", "go -1",
                      "go 01", "go 1234567890", "make b jar k", "make b far k", "read s b", "write z k", "same y z 0", "call y h box",
                      "call y no box", "back k", "back", "show 0", "never", "local l num 2", "out o num 2 num 2", "0", "set k 1.0",
                      "set k +1"):
            self.line_after(20, wrong)

    def test_rows_that_come_later(self):
        head = "module m\nroom 0\nentry e x num 2 num 2\n"
        self.assertEqual(read_module(head + "go 2\nshow\nback x").entries[0][5][0], ("go", 2))
        self.assertEqual(caught(InvalidText, read_module, head + "go 999999999"), 4)
        self.assertEqual(caught(InvalidText, read_module, head + "go 3\nshow\nback x"), 6)
        self.assertEqual(caught(InvalidText, read_module, head + "if x 1 1\nback x\nentry f x num 2 num 2\nif x 0 2\nback x"), 8)
        self.assertEqual(caught(InvalidText, read_module, head + "go 1\nentry f x num 2 num 2\nshow"), 4)
        self.assertEqual(caught(InvalidText, read_module, head + "set x 1\nentry f x num 2 num 2\nshow"), 4)
        self.assertEqual(caught(InvalidText, read_module, head + "entry f x num 2 num 2\nshow"), 3)
        self.assertEqual(caught(InvalidText, read_module, head + "local l num 2\nentry f x num 2 num 2\nshow"), 4)

    def test_ends_too_early(self):
        lines = WHOLE.split("\n")
        for many in range(1, len(lines)):
            is_whole = lines[many - 1] == "show"
            text = "\n".join(lines[:many])
            if is_whole:
                read_module(text)
            else:
                self.assertEqual(caught(InvalidText, read_module, text), many)
            self.assertEqual(caught(InvalidText, read_module, text + "\n"), many)
        self.assertEqual(caught(InvalidText, read_module, ""), 0)
        self.assertEqual(caught(InvalidText, read_module, "\n" + WHOLE), 0)
        self.assertEqual(caught(InvalidText, read_module, WHOLE + "\n"), len(lines))


class Books(unittest.TestCase):
    def test_there_and_back(self):
        for word in (3, 4, 10, 16):
            for narrow in (True, False):
                for things in (0, 1, 2):
                    for outs, inside, told in ((False, False, "alone"), (True, False, "outs"), (True, True, "inside")):
                        book = Book(word, narrow, things, outs, inside)
                        text = f"book {word} {'narrow' if narrow else 'whole'} things {things} {told}"
                        self.assertEqual(book_text(book), text)
                        self.assertEqual(repr(read_book(text).told), repr(book.told))
                        self.assertEqual(read_book("  " + text.replace(" ", "   ") + " ").told, book.told)
        self.assertEqual(book_text(book=Book(4, True, 2, True, True)), "book 4 narrow things 2 inside")
        self.assertEqual(read_book(text="book 4 whole things 0 alone").told, (4, False, 0, False, False))

    def test_wrong(self):
        for text in (
            "", " ", "\n", "book", "book 4 narrow things 2 inside x", "book 4 narrow things 2", "book 4 narrow 2 inside",
            "book 2 narrow things 2 inside", "book 17 narrow things 2 inside", "book 04 narrow things 2 inside",
            "book x narrow things 2 inside", "book 4 both things 2 inside", "book 4 narrow thing 2 inside",
            "book 4 narrow things 3 inside", "book 4 narrow things -1 inside", "book 4 narrow things 2 within",
            "book 4 narrow things 2 inside\n", "\nbook 4 narrow things 2 inside", "Book 4 narrow things 2 inside",
            "book 4 narrow things 2 inside\nbook 4 narrow things 2 inside", "book 4 narrow things 2 alone outs", "book 4 0 things 0 0",
        ):
            self.assertEqual(caught(InvalidText, read_book, text), 0, text)


class Plays(unittest.TestCase):
    def setUp(self):
        self.module = read_module(WHOLE)

    def test_there_and_back(self):
        moves = (
            ("call", "e", 0), ("call", "g", 3), ("back", 12), ("back", 0), ("call", "f", 999999999), ("never",), ("show",),
            ("call", "h", 0),
        )
        text = "call e 0\ncall g 3\nback 12\nback 0\ncall f 999999999\nnever\nshow\ncall h 0"
        for told in (moves, list(moves), [list(move) for move in moves]):
            self.assertEqual(play_text(self.module, told), text)
        self.assertEqual(read_play(self.module, text), moves)
        self.assertEqual(read_play(module=self.module, text=spaced(random.Random(1), text)), moves)
        self.assertEqual(play_text(module=self.module, moves=moves[:1]), "call e 0")

    def test_none(self):
        self.assertEqual(play_text(self.module, ()), "")
        self.assertEqual(play_text(self.module, []), "")
        self.assertEqual(read_play(self.module, ""), ())

    def test_wrong_moves(self):
        moves = [("call", "e", 0), ("back", 1)]
        known = [("back", 0), ("never",), ("show",), ("call", "e", 0)]
        for value in values() + [
            ("call", "k", 0), ("call", "e"), ("call", "e", 0, 0), ("call", "e", True), ("call", "e", -1), ("call", 0, 0),
            ("call", ["e"], 0), ("back",), ("back", None), ("back", 0, 0), ("never", 0), ("show", 0), "never", ("go",),
            ("call", "e", "0"), ("enter", "e", 0), ("call", "all", 0), ("call", "c", 0), ("call", "main", 0),
        ]:
            if value not in known:
                self.assertEqual(caught(InvalidPlay, play_text, self.module, moves + [value, None]), 2)
            if not isinstance(value, (list, tuple)):
                self.assertEqual(caught(InvalidPlay, play_text, self.module, value), -1)

    def test_wrong_texts(self):
        for line in (
            "", "  ", "call", "call e", "call k 0", "call e 00", "call e 01", "call e 0 0", "call e x", "call e -1", "back", "back x",
            "back 1234567890", "back 0 0", "never 0", "show show", "Never", "call all 0", "call box 0", "call x 0", "0", "call\te 0",
        ):
            for behind in ("", "\nback 0", "\n?"):
                self.assertEqual(caught(InvalidText, read_play, self.module, "call e 1\nback 0\n" + line + behind), 2, line)
        for text in (" ", "\n", "\ncall e 0", "?"):
            self.assertEqual(caught(InvalidText, read_play, self.module, text), 0)
        self.assertEqual(caught(InvalidText, read_play, self.module, "call e 0\n"), 1)


if __name__ == "__main__":
    unittest.main()
