"""[9] Guests, surroundings, and which go together."""

import unittest

from nomoreseen.books import fits, fits_around, is_around
from nomoreseen.errors import InvalidBook, InvalidModule
from nomoreseen.modules import Book, Module
from tests.anything import BOOK, MODULE, caught, values

W = ("num", 4)
N = ("num", 3)
WIDE = ("num", 5)
BOX = ("thing", "box")


def whole(things=2, outs=True, inside=True):
    return Book(4, False, things, outs, inside)


def narrow(things=2, outs=True, inside=True):
    return Book(4, True, things, outs, inside)


def module(classes=(), room=0, foreign=(), cells=(), outs=(), entries=None, inner=(), rows=(("go", 0),)):
    return Module("m", classes, room, foreign, cells, outs, entries or (("e", "x", W, W, inner, rows),))


def main(kind_in=W, kind_back=W, name="main"):
    return (name, "x", kind_in, kind_back, (), (("show",),))


class Guests(unittest.TestCase):
    def check(self, place, made, *books):
        for book in books:
            self.assertEqual(fits(book, made), place, book.told)

    def test_sizes(self):
        for kind, wrong in ((W, []), (N, [whole()]), (WIDE, [whole(), narrow()]), (("num", 1), [whole()])):
            right = [book for book in (whole(), narrow()) if book.told not in [told.told for told in wrong]]
            for made, place in [
                (module(classes=(("a", 4), ("b", kind[1]))), ("classes", 1)),
                (module(cells=(("a", W, False), ("b", kind, True))), ("cells", 1)),
                (module(outs=(("a", W, W), ("b", kind, W))), ("outs", 1)),
                (module(outs=(("a", W, kind),)), ("outs", 0)),
                (module(entries=(("e", "x", W, W, (), (("go", 0),)), ("f", "x", kind, W, (), (("go", 0),)))), ("entries", 1)),
                (module(entries=(("e", "x", W, kind, (), (("go", 0),)),)), ("entries", 0)),
                (module(inner=(("k", W), ("l", kind))), ("entries", 0)),
            ]:
                self.check(place, made, *wrong)
                self.check(None, made, *right)

    def test_things(self):
        two = module(classes=(("a", 4), ("b", 4)))
        one = module(classes=(("a", 4),))
        self.check(("classes", 0), two, whole(0), narrow(0))
        self.check(("classes", 1), two, whole(1))
        self.check(None, two, whole(2))
        self.check(("classes", 0), one, whole(0))
        self.check(None, one, whole(1), whole(2))
        foreign = module(foreign=("a", "b", "c"))
        self.check(("foreign", 0), foreign, whole(0))
        self.check(None, foreign, whole(1), whole(2))
        three = module(classes=(("a", 4), ("b", 4), ("c", 4)))
        self.check(None, three, whole(2))
        self.check(("classes", 1), three, whole(1))

    def test_room(self):
        self.check(None, module(room=3), whole(), narrow(0))
        self.check(("room",), module(room=4), whole(), narrow(0))
        self.check(("room",), module(room=99, foreign=("a",)), whole(0))
        self.check(("classes", 0), module(classes=(("a", 5),), room=99), whole())

    def test_outs(self):
        made = module(outs=(("a", W, W), ("b", W, W)))
        self.check(("outs", 0), made, whole(outs=False, inside=False))
        self.check(None, made, whole(), whole(inside=False))

    def test_main(self):
        self.check(("classes", 0), module(classes=(("main", 4),)), whole())
        self.check(("foreign", 1), module(foreign=("a", "main")), whole())
        self.check(("outs", 0), module(outs=(("main", W, W),)), whole())
        self.check(("entries", 0), module(entries=(("main", "x", W, W, (), (("go", 0),)),)), whole())
        self.check(None, module(cells=(("main", W, False),)), whole())
        self.check(None, module(inner=(("main", W),)), whole())

    def test_show(self):
        rows = (("go", 1), ("show",), ("show",), ("back", "x"))
        self.check(("rows", 0, 1), module(rows=rows), whole(), narrow(0))

    def test_order(self):
        rows = (("show",),)
        parts = {
            "entries": (("e", "x", W, W, (("l", WIDE),), rows), ("main", "x", W, W, (), rows)), "outs": (("o", WIDE, W),),
            "cells": (("a", WIDE, False),), "foreign": ("far",), "room": 50, "classes": (("b", 4),),
        }
        for place in [("classes", 0), ("room",), ("foreign", 0), ("cells", 0), ("outs", 0), ("entries", 0)]:
            self.check(place, module(**parts), whole(0))
            del parts[place[0]]
        entries = (("e", "x", W, W, (), rows), ("main", "x", W, W, (), rows))
        self.check(("rows", 0, 0), module(entries=entries), whole())
        self.check(("entries", 1), module(entries=(("e", "x", W, W, (), (("go", 0),)), entries[1])), whole())

    def test_named(self):
        self.assertIsNone(fits(book=whole(), module=module()))
        self.assertIsNone(fits_around(module=module(entries=(main(),)), book=whole()))
        self.assertIs(is_around(module=module(outs=(("e", W, W),), entries=(main(),)), guest=module()), True)
        self.assertIs(is_around(module=module(), guest=module(outs=(("f", W, W),))), False)


class Surroundings(unittest.TestCase):
    def test_what_is_let(self):
        rows = (("show",),)
        made = Module(
            "m", (("a", 4), ("main", 4)), 99, ("b", "c"), (("k", W, True),), (("o", W, W),), (("e", "x", W, W, (), rows),),
        )
        self.assertEqual(fits_around(whole(0, False, False), made), ("main",))
        made = Module("m", (("a", 4), ("c", 4)), 99, ("b",), (("k", W, True),), (("o", W, W),), (main(),))
        for book in (whole(), narrow(), whole(0, False, False)):
            self.assertIsNone(fits_around(book, made))

    def test_main(self):
        self.assertIsNone(fits_around(whole(), module(entries=(("e", "x", W, W, (), (("go", 0),)), main()))))
        for made in (module(), module(entries=(main(N),)), module(entries=(main(W, N),)), module(cells=(("main", W, False),))):
            self.assertEqual(fits_around(narrow(), made), ("main",))
        for made in (module(classes=(("b", 4),), entries=(main(("thing", "b")),)), module(outs=(("main", W, W),))):
            self.assertEqual(fits_around(whole(), made), ("main",))

    def test_sizes(self):
        for kind in (N, WIDE):
            book = whole()
            self.assertEqual(fits_around(book, module(classes=(("a", kind[1]),))), ("classes", 0))
            self.assertEqual(fits_around(book, module(cells=(("a", kind, False),))), ("cells", 0))
            self.assertEqual(fits_around(book, module(outs=(("a", W, kind),))), ("outs", 0))
            self.assertEqual(fits_around(book, module(entries=(main(kind),))), ("entries", 0))
            self.assertEqual(fits_around(book, module(inner=(("a", kind),))), ("entries", 0))
        self.assertEqual(fits_around(narrow(), module(cells=(("a", N, False), ("b", WIDE, False)))), ("cells", 1))


class Around(unittest.TestCase):
    def guest(self, **other):
        parts = {
            "classes": (("box", 4), ("jar", 4)), "foreign": ("far",), "outs": (("g", W, BOX),),
            "entries": (("e", "x", W, W, (), (("go", 0),)), ("f", "x", BOX, ("thing", "far"), (), (("go", 0),))),
        }
        parts.update(other)
        return module(**parts)

    def amid(self, **other):
        parts = {
            "classes": (("far", 4), ("mine", 4)), "foreign": ("jar", "box"), "outs": (("f", BOX, ("thing", "far")),),
            "entries": (main(), ("g", "y", W, BOX, (), (("go", 0),))),
        }
        parts.update(other)
        return module(**parts)

    def check(self, wanted, guest, amid):
        self.assertIs(is_around(guest, amid), wanted)

    def test_made_for_each_other(self):
        self.check(True, self.guest(), self.amid())
        self.check(True, module(), module(entries=(main(),)))
        self.check(True, module(), module())
        # More entries on either side do not matter.
        self.check(True, self.guest(outs=()), self.amid())
        self.check(True, self.guest(), self.amid(outs=()))

    def test_doors(self):
        self.check(False, self.guest(outs=(("h", W, BOX),)), self.amid())
        self.check(False, self.guest(outs=(("g", N, BOX),)), self.amid())
        self.check(False, self.guest(outs=(("g", W, ("thing", "jar")),)), self.amid())
        self.check(False, self.guest(), self.amid(outs=(("z", W, W),)))
        self.check(False, self.guest(), self.amid(outs=(("e", N, W),)))
        self.check(False, self.guest(), self.amid(outs=(("e", W, N),)))
        self.check(False, self.guest(), self.amid(outs=(("e", W, W), ("f", BOX, BOX))))
        self.check(False, self.guest(), self.amid(entries=(main(),)))

    def test_classes(self):
        self.check(False, self.guest(), self.amid(foreign=("box", "jar", "no")))
        self.check(False, self.guest(foreign=("far", "new")), self.amid())
        self.check(False, self.guest(), self.amid(classes=(("far", 4), ("jar", 4)), foreign=("box",)))
        # Both have it as an own one, and nothing else is wrong.
        self.check(False, module(classes=(("a", 4),)), module(classes=(("a", 4),)))
        self.check(False, module(foreign=("a",)), module(foreign=("a",)))
        self.check(True, module(classes=(("a", 4),)), module(classes=(("b", 4),)))
        self.check(True, module(classes=(("a", 4),)), module())
        self.check(True, module(), module(classes=(("a", 4),)))


class Wrong(unittest.TestCase):
    def test_in_the_order_of_the_arguments(self):
        for value in values():
            for call in (fits, fits_around):
                if value is not BOOK:
                    self.assertEqual(caught(InvalidBook, call, value, MODULE), "book")
                    self.assertEqual(caught(InvalidBook, call, value, value if value is not MODULE else 0), "book")
                if value is not MODULE:
                    self.assertEqual(caught(InvalidModule, call, BOOK, value), ("module",))
            if value is not MODULE:
                self.assertEqual(caught(InvalidModule, is_around, value, MODULE), ("module",))
                self.assertEqual(caught(InvalidModule, is_around, MODULE, value), ("module",))


if __name__ == "__main__":
    unittest.main()
