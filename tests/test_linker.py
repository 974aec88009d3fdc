"""[43] Programs."""

import unittest

from nomoreseen.errors import InvalidBook, InvalidLink, InvalidModule, NoName
from nomoreseen.linker import Program
from nomoreseen.modules import Book, Module
from tests.anything import BOOK, PROGRAM, caught, values

W = ("num", 3)
B = ("num", 2)
LINKED = Book(3, True, 0, True, False)


def module(name, outs=(), entries=("e",), kind=W, **other):
    parts = {
        "classes": (), "room": 0, "foreign": (), "cells": (("s", B, True),), "outs": tuple((out, W, B) for out in outs),
        "entries": tuple((entry, "x", kind, B, (("y", B),), (("back", "y"),)) for entry in entries),
    }
    parts.update(other)
    return Module(name, *parts.values())


A = module("a", outs=("g", "h"), entries=("e", "spare"))
B_CALLS = module("b", outs=("g",), entries=("e", "f"))
C = module("c", entries=("e",))
ALL = (A, B_CALLS, C)
LINKS = (("a", "g", "b", "e"), ("a", "h", "c", "e"), ("b", "g", "a", "spare"))
# The third link would come back; without the spare entry there are ways alone.
ONWARD = module("a", outs=("g", "h"), entries=("e",))
LAST = module("c", entries=("e", "f"))
RIGHT = (ONWARD, B_CALLS, LAST)
RIGHT_LINKS = (("a", "g", "b", "e"), ("b", "g", "c", "e"), ("a", "h", "c", "f"))


class Programs(unittest.TestCase):
    def setUp(self):
        self.one = module("b", outs=("g",), entries=("e",))
        self.modules = (ONWARD, self.one, LAST)
        self.main = ("a", "e")

    def wrong(self, error, book=LINKED, modules=None, links=RIGHT_LINKS, main=("a", "e")):
        return caught(error, Program, book, self.modules if modules is None else modules, links, main)

    def test_right(self):
        made = Program(LINKED, self.modules, RIGHT_LINKS, self.main)
        self.assertIs(made.book, LINKED)
        self.assertEqual(made.modules, self.modules)
        self.assertEqual((made.links, made.main), (RIGHT_LINKS, self.main))
        self.assertEqual(made.told, (LINKED.told, tuple(told.told for told in self.modules), RIGHT_LINKS, self.main))
        listed = Program(main=list(self.main), links=[list(link) for link in RIGHT_LINKS], modules=list(self.modules), book=LINKED)
        self.assertEqual(repr(listed.told), repr(made.told))
        self.assertEqual(repr((listed.links, listed.main)), repr((RIGHT_LINKS, self.main)))
        self.assertIs(type(listed.modules), tuple)
        for call in (iter, len):
            with self.assertRaises(TypeError):
                call(made)

    def test_later_changes(self):
        modules, links, main = list(self.modules), [list(link) for link in RIGHT_LINKS], list(self.main)
        made = Program(LINKED, modules, links, main)
        told = repr(made.told)
        modules.pop()
        links[0][0] = "z"
        links.append(None)
        main[0] = "b"
        self.assertEqual(repr(made.told), told)
        self.assertEqual((made.modules, made.links, made.main), (self.modules, RIGHT_LINKS, self.main))

    def test_other_orders(self):
        # The main module need not be the first, nor links go from earlier to later ones.
        modules = (LAST, self.one, ONWARD)
        for links in (RIGHT_LINKS, RIGHT_LINKS[::-1], RIGHT_LINKS[1:] + RIGHT_LINKS[:1]):
            self.assertEqual(Program(LINKED, modules, links, self.main).links, links)

    def test_two_to_five_modules(self):
        pair = (module("a", outs=("g",)), module("b"))
        Program(LINKED, pair, (("a", "g", "b", "e"),), ("a", "e"))
        rows = [module("abcde"[at], outs=("g",) * (at < 4)) for at in range(5)]
        links = [("abcde"[at], "g", "abcde"[at + 1], "e") for at in range(4)]
        Program(LINKED, rows, links, ("a", "e"))
        self.assertEqual(self.wrong(InvalidLink, modules=(module("a"), module("b")), links=()), 0)
        self.assertEqual(self.wrong(InvalidModule, modules=rows + [module("f")]), ("modules", -1))
        self.assertEqual(self.wrong(InvalidModule, modules=rows[:1]), ("modules", -1))
        self.assertEqual(self.wrong(InvalidModule, modules=()), ("modules", -1))

    def test_books(self):
        for value in values():
            wanted = "things" if value is BOOK else "book"
            self.assertEqual(caught(InvalidBook, Program, value, None, None, None), wanted)
        for told, word in [
            ((3, True, 1, False, False), "things"), ((3, True, 2, True, True), "things"), ((3, True, 0, False, False), "outs"),
            ((3, True, 0, True, True), "inside"),
        ]:
            self.assertEqual(self.wrong(InvalidBook, book=Book(*told), modules=0, links=0, main=0), word)

    def test_modules(self):
        wide = module("z", kind=("num", 4))
        own = module("z", classes=(("box", 3),))
        foreign = module("z", foreign=("far",))
        roomy = module("z", room=3)
        shows = Module("z", (), 0, (), (), (), (("e", "x", W, W, (), (("show",),)),))
        called = module("z", entries=("main",))
        again = module("a")
        for value in values() + [wide, own, foreign, roomy, shows, called, again, LINKED, PROGRAM]:
            if not isinstance(value, Module) or value in (wide, own, foreign, roomy, shows, called, again):
                modules = (ONWARD, self.one, value, None)
                self.assertEqual(self.wrong(InvalidModule, modules=modules, links=None, main=None), ("modules", 2))
            if not isinstance(value, (list, tuple)):
                self.assertEqual(caught(InvalidModule, Program, LINKED, value, None, None), ("modules", -1))
        whole = Book(3, False, 0, True, False)
        self.assertEqual(self.wrong(InvalidModule, book=whole), ("modules", 0))

    def test_main(self):
        for value in values() + [("a",), ("a", "e", "e"), ("a", "x"), ("z", "e"), ("a", "g"), ("a", None), (None, "e"), (["a"], "e"), "ae"]:
            self.assertIs(self.wrong(NoName, main=value, links=None), value)
        self.assertEqual(self.wrong(InvalidLink, main=["a", "e"], links=None), -1)

    def test_links(self):
        for value in values():
            if not isinstance(value, (list, tuple)):
                self.assertEqual(self.wrong(InvalidLink, links=value), -1)
            self.assertEqual(self.wrong(InvalidLink, links=[list(RIGHT_LINKS[0]), value, None]), 1)
        for link in [
            ("b", "g", "c"), ("b", "g", "c", "e", "e"), ("z", "g", "c", "e"), ("b", "z", "c", "e"), ("b", "g", "z", "e"),
            ("b", "g", "c", "z"), ("b", "e", "c", "e"), ("b", "g", "a", "g"), (["b"], "g", "c", "e"), ("b", ["g"], "c", "e"),
            ("b", "g", ["c"], "e"), ("b", "g", "c", ["e"]), (0, 0, 0, 0),
        ]:
            self.assertEqual(self.wrong(InvalidLink, links=(RIGHT_LINKS[0], link, None)), 1)

    def test_kinds(self):
        for outs in ((("g", B, B),), (("g", W, W),), (("g", B, W),)):
            other = module("b", outs=(), **{"cells": ()}).told
            other = Module(*other[:5], outs, other[6])
            self.assertEqual(self.wrong(InvalidLink, modules=(ONWARD, other, LAST)), 1)

    def test_stood_ahead(self):
        self.assertEqual(self.wrong(InvalidLink, links=RIGHT_LINKS[:2] + (("a", "g", "c", "f"),)), 2)
        self.assertEqual(self.wrong(InvalidLink, links=RIGHT_LINKS[:2] + (("a", "h", "c", "e"),)), 2)
        self.assertEqual(self.wrong(InvalidLink, links=RIGHT_LINKS + RIGHT_LINKS[:1]), 3)
        # The main entry stands ahead of all links.
        pair = (module("a", outs=("g",)), module("b", entries=("e", "f")))
        self.assertEqual(self.wrong(InvalidLink, modules=pair, links=(("a", "g", "b", "e"),), main=("b", "e")), 0)

    def test_ways_that_come_back(self):
        self.assertEqual(self.wrong(InvalidLink, modules=(A, module("b", outs=("g",)), C), links=LINKS), 2)
        alone = (module("a", outs=("g",), entries=("e", "f")), module("b"))
        self.assertEqual(self.wrong(InvalidLink, modules=alone, links=(("a", "g", "a", "f"),)), 0)
        # Two links between the same two modules are no way back.
        pair = (module("a", outs=("g", "h")), module("b", entries=("e", "f")))
        Program(LINKED, pair, (("a", "h", "b", "e"), ("a", "g", "b", "f")), ("a", "e"))
        rows = (module("a", outs=("g",), entries=("m", "e")), module("b", outs=("g",)), module("c", outs=("g",)))
        links = (("c", "g", "a", "e"), ("a", "g", "b", "e"), ("b", "g", "c", "e"))
        self.assertEqual(self.wrong(InvalidLink, modules=rows, links=links, main=("a", "m")), 2)

    def test_doors_without_links(self):
        for many in range(3):
            self.assertEqual(self.wrong(InvalidLink, links=RIGHT_LINKS[:many]), many)
        spare = (ONWARD, self.one, module("c", entries=("e", "f", "i")))
        self.assertEqual(self.wrong(InvalidLink, modules=spare), 3)
        spare = (ONWARD, self.one, module("c", entries=("e", "f"), outs=("i",)))
        self.assertEqual(self.wrong(InvalidLink, modules=spare), 3)


if __name__ == "__main__":
    unittest.main()
