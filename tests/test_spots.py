"""[31] Tricks, guards and spots."""

import random
import unittest

from nomoreseen.errors import InvalidBook, InvalidModule, InvalidSize, InvalidSpots
from nomoreseen.modules import Book, Module
from nomoreseen.spots import TRICKS, bites, need_spots, spots, spots_of, trick_of
from nomoreseen.texts import read_module
from tests.anything import BOOK, MODULE, caught, values
from tests.makers import random_book, random_doors, random_guest

PAIRS = {
    "wipe": "W", "below": "K", "given": "H", "class": "C", "number": "N", "frame": "S", "idle": "B", "alone": "R",
}
GUARDS = ("alone", "below", "given", "class", "frame", "wipe", "number", "idle")

FULL = """module m
class box 3
class jar 3
room 1
foreign far
out g num 2 thing box
out h thing jar num 2
out i num 3 num 3
out j thing far thing far
out k thing box thing jar
entry e x num 2 num 2
local a num 3
local b thing box
local c thing jar
call b g x
call x h c
call a i a
back x
entry f x thing box thing jar
local z thing far
call z j z
go 0
entry z x num 3 thing far
go 0
entry w x thing jar num 3
local a num 3
back a"""


def slow_spots(book, module):
    """The spots by the words of the document, guard by guard."""
    own = [name for name, _ in module.classes]
    called = {row[2] for entry in module.entries for row in entry[5] if row[0] == "call"}
    outs = [out for out in module.outs if out[0] in called]
    backs = [entry[0] for entry in module.entries if any(row[0] == "back" for row in entry[5])]
    doors = [entry[0] for entry in module.entries] + [out[0] for out in outs]
    comes = {entry[0]: entry[2] for entry in module.entries} | {out[0]: out[2] for out in outs}
    goes = {entry[0]: entry[3] for entry in module.entries if entry[0] in backs} | {out[0]: out[1] for out in outs}

    def is_own(kind):
        return kind[0] == "thing" and kind[1] in own

    told = []
    for guard in GUARDS:
        if guard == "alone":
            seams = [entry[0] for entry in module.entries if called and not book.inside]
        elif guard == "below":
            seams = [name for name in doors if comes[name][0] == "num" and comes[name][1] < book.word]
        elif guard in ("given", "class"):
            seams = [name for name in doors if is_own(comes[name]) and (guard == "given" or len(own) >= 2)]
        elif guard == "frame":
            seams = [out[0] for out in outs]
        elif guard == "wipe":
            seams = backs + [out[0] for out in outs]
        elif guard == "number":
            seams = [""] * any(is_own(kind) for kind in list(comes.values()) + list(goes.values()))
        else:
            seams = [""] * bool(called)
        told += [(guard, seam) for seam in seams]
    return tuple(told)


class Tricks(unittest.TestCase):
    def test_tricks(self):
        self.assertEqual(TRICKS, ("W", "K", "H", "C", "N", "S", "B", "R"))
        self.assertEqual({guard: trick_of(guard) for guard in GUARDS}, PAIRS)
        self.assertEqual(trick_of(guard="wipe"), "W")
        for value in values() + ["W", "Wipe", "wipe ", ["wipe"], ("wipe", "")]:
            self.assertEqual(caught(InvalidSize, trick_of, value), "guard")

    def test_bites(self):
        for narrow in (False, True):
            for things in (0, 1, 2):
                for outs, inside in ((False, False), (True, False), (True, True)):
                    wanted = "W" + "K" * narrow + "HN" * (things == 1) + "HCN" * (things == 2)
                    wanted += ("SBR" if not inside else "SB") * outs
                    self.assertEqual(bites(Book(3, narrow, things, outs, inside)), tuple(wanted))
        self.assertEqual(bites(book=Book(16, False, 0, False, False)), ("W",))
        for value in values():
            if value is not BOOK:
                self.assertEqual(caught(InvalidBook, bites, value), "book")


class Spots(unittest.TestCase):
    def setUp(self):
        self.book = Book(3, True, 2, True, False)
        self.module = read_module(FULL)
        self.all = (
            ("alone", "e"), ("alone", "f"), ("alone", "z"), ("alone", "w"),
            ("below", "e"), ("below", "h"),
            ("given", "f"), ("given", "w"), ("given", "g"),
            ("class", "f"), ("class", "w"), ("class", "g"),
            ("frame", "g"), ("frame", "h"), ("frame", "i"), ("frame", "j"),
            ("wipe", "e"), ("wipe", "w"), ("wipe", "g"), ("wipe", "h"), ("wipe", "i"), ("wipe", "j"),
            ("number", ""), ("idle", ""),
        )

    def test_all(self):
        self.assertEqual(spots(self.book, self.module), self.all)
        self.assertEqual(spots(module=self.module, book=self.book), self.all)
        inside = Book(3, True, 2, True, True)
        self.assertEqual(spots(inside, self.module), self.all[4:])

    def test_by_hand(self):
        bit = ("num", 2)
        rows = (("if", "s", 0, 2), ("set", "t", 1), ("back", "x"))
        told = Module("m", (), 0, (), (("s", bit, True),), (), (("e", "x", bit, bit, (("t", bit),), rows),))
        self.assertEqual(spots(Book(3, True, 0, False, False), told), (("below", "e"), ("wipe", "e")))
        text = "module m\nroom 0\nsecret s num 2\ncell z num 2\nout g num 2 num 2\nentry e p num 2 num 2\nlocal t num 2\n" \
            "if s 0 3\ncall t g z\ngo 4\ncall t g z\nback z"
        wanted = (("alone", "e"), ("below", "e"), ("below", "g"), ("frame", "g"), ("wipe", "e"), ("wipe", "g"), ("idle", ""))
        self.assertEqual(spots(Book(3, True, 0, True, False), read_module(text)), wanted)

    def entry_alone(self, kinds, rows, ahead=""):
        return read_module(f"module m\n{ahead}entry e x {kinds}\n{rows}")

    def test_single_spots(self):
        book = Book(3, True, 2, True, False)
        self.assertEqual(spots(book, self.entry_alone("num 3 num 3", "go 0", "room 0\n")), ())
        self.assertEqual(spots(book, self.entry_alone("num 3 num 3", "back x", "room 0\n")), (("wipe", "e"),))
        self.assertEqual(spots(book, self.entry_alone("num 1 num 3", "go 0", "room 0\n")), (("below", "e"),))
        one = "class box 3\nroom 0\n"
        self.assertEqual(spots(book, self.entry_alone("thing box num 3", "go 0", one)), (("given", "e"), ("number", "")))
        self.assertEqual(spots(book, self.entry_alone("num 3 thing box", "go 0", one)), ())
        text = self.entry_alone("num 3 thing box", "local t thing box\nback t", one)
        self.assertEqual(spots(book, text), (("wipe", "e"), ("number", "")))
        two = "class box 3\nclass jar 3\nroom 0\n"
        wanted = (("given", "e"), ("class", "e"), ("number", ""))
        self.assertEqual(spots(book, self.entry_alone("thing jar num 3", "go 0", two)), wanted)
        foreign = "room 0\nforeign far\n"
        self.assertEqual(spots(book, self.entry_alone("thing far thing far", "back x", foreign)), (("wipe", "e"),))
        both = "class box 3\nroom 0\nforeign far\n"
        self.assertEqual(spots(book, self.entry_alone("thing box num 3", "go 0", both)), (("given", "e"), ("number", "")))

    def test_outs(self):
        book = Book(3, True, 2, True, False)
        one = "class box 3\nroom 0\nout g thing box thing box\n"
        self.assertEqual(spots(book, self.entry_alone("num 3 num 3", "back x", one)), (("wipe", "e"),))
        # A row that nobody comes to counts, too.
        text = self.entry_alone("num 3 num 3", "local t thing box\ngo 0\ncall t g t\ngo 0", one)
        wanted = (("alone", "e"), ("given", "g"), ("frame", "g"), ("wipe", "g"), ("number", ""), ("idle", ""))
        self.assertEqual(spots(book, text), wanted)

    def test_random_guests(self):
        rng = random.Random(31)
        for _ in range(300):
            book = random_book(rng)
            guest = random_guest(rng, book, random_doors(rng, book))
            every = spots(book, guest)
            self.assertEqual(every, slow_spots(book, guest))
            tricks = {trick_of(guard) for guard, _ in every}
            self.assertLessEqual(tricks, set(bites(book)))
            for _ in range(4):
                some = [trick for trick in TRICKS if rng.random() < 0.5]
                wanted = tuple(spot for spot in every if trick_of(spot[0]) in some)
                self.assertEqual(spots_of(book, guest, rng.sample(some, len(some))), wanted)
                mixed = rng.sample(every, len(wanted))
                told = tuple(spot for spot in every if spot in mixed)
                self.assertEqual(need_spots(book, guest, mixed), told)
                self.assertEqual(need_spots(book, guest, tuple(map(list, mixed))), told)

    def test_need_spots(self):
        self.assertEqual(need_spots(self.book, self.module, ()), ())
        self.assertEqual(need_spots(self.book, self.module, self.all[::-1]), self.all)
        self.assertEqual(need_spots(module=self.module, value=[["idle", ""], ["alone", "e"]], book=self.book), (self.all[0], self.all[-1]))
        told = need_spots(self.book, self.module, [["idle", ""]])
        self.assertEqual(repr(told), "(('idle', ''),)")
        some = [("idle", ""), ["wipe", "g"]]
        for value in values() + [
            ("idle",), ("idle", "", ""), ("idle", "e"), ("wipe", "f"), ("wipe", "z"), ("wipe", "k"), ("below", "i"), ("number", "e"),
            ("class", "k"), ("given", "h"), ("alone", "g"), ("frame", "e"), ["idle", ""], ("wipe", "g"), "idle", ("Idle", ""),
            (["idle"], ""), ("wipe", ["e"]), ("idle", None),
        ]:
            self.assertEqual(caught(InvalidSpots, need_spots, self.book, self.module, some + [value, None]), 2)
            if not isinstance(value, (list, tuple)):
                self.assertEqual(caught(InvalidSpots, need_spots, self.book, self.module, value), -1)

    def test_spots_of(self):
        self.assertEqual(spots_of(self.book, self.module, ()), ())
        self.assertEqual(spots_of(self.book, self.module, []), ())
        self.assertEqual(spots_of(self.book, self.module, TRICKS), self.all)
        self.assertEqual(spots_of(self.book, self.module, ["B", "N", "B"]), (("number", ""), ("idle", "")))
        self.assertEqual(spots_of(module=self.module, tricks=("R",), book=self.book), self.all[:4])
        # A trick that does not bite has no spots.
        self.assertEqual(spots_of(Book(3, True, 2, True, True), self.module, "R S".split()), self.all[12:16])
        for value in values() + ["W", "WK", ("W", "w"), ("wipe",), (("W",),), ["W", None], ("W", True)]:
            if value not in ((), []):
                self.assertEqual(caught(InvalidSize, spots_of, self.book, self.module, value), "tricks")

    def test_guests_alone(self):
        calls = [spots, lambda *told: need_spots(*told, None), lambda *told: spots_of(*told, None)]
        for call in calls:
            for value in values():
                if value is not BOOK:
                    self.assertEqual(caught(InvalidBook, call, value, None), "book")
                if value is not MODULE:
                    self.assertEqual(caught(InvalidModule, call, self.book, value), ("module",))
            self.assertEqual(caught(InvalidModule, call, Book(3, False, 2, True, False), self.module), ("outs", 0))
            self.assertEqual(caught(InvalidModule, call, Book(3, True, 1, True, False), self.module), ("classes", 1))
            shows = read_module("module m\nroom 0\nentry e x num 3 num 3\nshow")
            self.assertEqual(caught(InvalidModule, call, self.book, shows), ("rows", 0, 0))


if __name__ == "__main__":
    unittest.main()
