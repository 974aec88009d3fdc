"""[5] Books, [6], [7] modules and their rows, [8] what a module tells."""

import unittest

from nomoreseen.errors import InvalidBook, InvalidModule, NoName
from nomoreseen.modules import Book, Module
from tests.anything import caught, values

BIT = ("num", 2)
DIGIT = ("num", 3)
BOX = ("thing", "box")
JAR = ("thing", "jar")
FAR = ("thing", "far")
OFF = ("thing", "off")

# One of each kind of variable; n of box is 3, of jar 2.
CLASSES = (("box", 3), ("jar", 2))
FOREIGN = ("far", "off")
CELLS = (("c", DIGIT, False), ("s", BIT, True), ("d", DIGIT, True), ("bx", BOX, False))
OUTS = (("g", BIT, DIGIT), ("h", BOX, FAR))
LOCALS = (
    ("k", DIGIT), ("l", BIT), ("by", BOX), ("ja", JAR), ("fa", FAR), ("fb", FAR), ("of", OFF), ("box", BIT), ("g", DIGIT),
    ("e", JAR), ("one", ("num", 1)),
)


def module(**other):
    """A module in which some parts are others."""
    parts = {
        "name": "m", "classes": CLASSES, "room": 4, "foreign": FOREIGN, "cells": CELLS, "outs": OUTS,
        "entries": (("e", "x", DIGIT, BIT, LOCALS, (("back", "l"),)), ("f", "y", BOX, JAR, (), (("go", 0),))),
    }
    parts.update(other)
    return Module(**parts)


def entry(**other):
    parts = {"name": "e", "parameter": "x", "in": DIGIT, "back": BIT, "locals": LOCALS, "rows": (("back", "l"),)}
    parts.update(other)
    return tuple(parts.values())


def wrong_place(**other):
    return caught(InvalidModule, module, **other)


def lists(value):
    return [lists(part) for part in value] if isinstance(value, (list, tuple)) else value


class Books(unittest.TestCase):
    def test_in_bounds(self):
        for word in (3, 4, 9, 16):
            for things in (0, 1, 2):
                for outs, inside in ((False, False), (True, False), (True, True)):
                    for narrow in (True, False):
                        told = (word, narrow, things, outs, inside)
                        book = Book(*told)
                        self.assertEqual(book.told, told)
                        self.assertEqual((book.word, book.narrow, book.things, book.outs, book.inside), told)
                        named = Book(inside=inside, outs=outs, things=things, narrow=narrow, word=word)
                        self.assertEqual(named.told, told)

    def test_out_of_bounds(self):
        right = (3, True, 1, True, True)
        names = ("word", "narrow", "things", "outs", "inside")
        for value in values() + [17, 2, -3]:
            for at, name in enumerate(names):
                is_right = type(value) is bool if at in (1, 3, 4) else type(value) is int and (
                    3 <= value <= 16 if at == 0 else 0 <= value <= 2)
                if is_right:
                    continue
                told = right[:at] + (value,) + right[at + 1:]
                self.assertEqual(caught(InvalidBook, Book, *told), name)
                # All behind it is wrong, too.
                told = right[:at] + (value,) + (None,) * (4 - at)
                self.assertEqual(caught(InvalidBook, Book, *told), name)

    def test_inside_needs_outs(self):
        self.assertEqual(caught(InvalidBook, Book, 3, True, 0, False, True), "inside")
        self.assertEqual(caught(InvalidBook, Book, 3, True, 3, False, True), "things")

    def test_no_sequence(self):
        book = Book(3, True, 0, False, False)
        for call in (iter, len, list):
            with self.assertRaises(TypeError):
                call(book)
        self.assertNotEqual(book, Book(3, True, 0, False, False))


class Parts(unittest.TestCase):
    def test_attributes(self):
        made = module()
        told = ("m", CLASSES, 4, FOREIGN, CELLS, OUTS, made.entries)
        self.assertEqual(made.told, told)
        self.assertEqual((made.name, made.classes, made.room, made.foreign, made.cells, made.outs), told[:-1])
        self.assertEqual(made.entries[1], ("f", "y", BOX, JAR, (), (("go", 0),)))
        self.assertEqual(Module(*told).told, told)
        self.assertEqual(Module(*lists(told)).told, told)
        self.assertEqual(repr(Module(*lists(told)).told), repr(told))

    def test_later_changes(self):
        told = lists(module().told)
        made = Module(*told)
        told[1][0][1] = 9
        told[3].append("new")
        told[4][0][1][1] = 9
        told[6][0][5][0][0] = "show"
        del told[6][1]
        self.assertEqual(made.told, module().told)
        self.assertEqual(made.entries, module().entries)

    def test_no_sequence(self):
        for call in (iter, len):
            with self.assertRaises(TypeError):
                call(module())

    def test_smallest_and_greatest(self):
        made = Module("a", (), 0, (), (), (), (("e", "x", ("num", 1), ("num", 16), (), (("show",),)),))
        self.assertEqual(made.cells, ())
        self.assertEqual(module(room=99).room, 99)
        self.assertEqual(module(name="abcdefgh").name, "abcdefgh")
        self.assertEqual(module(classes=(("box", 16), ("jar", 1))).classes[0], ("box", 16))

    def test_names(self):
        for name in values() + ["abcdefghi", "A", "a1", "a_b", "a ", "\u00e9", "B"]:
            if name not in ("e", "m", "main", "never", "num"):
                self.assertEqual(wrong_place(name=name, classes=None), ("name",))
                self.assertEqual(wrong_place(classes=(("box", 3), (name, 2)), room=-1), ("classes", 1))
                self.assertEqual(wrong_place(foreign=("far", name), cells=0), ("foreign", 1))
                self.assertEqual(wrong_place(cells=((name, BIT, False),), outs=0), ("cells", 0))
                self.assertEqual(wrong_place(outs=(("g", BIT, BIT), (name, BIT, BIT)), entries=0), ("outs", 1))
                self.assertEqual(wrong_place(entries=(entry(name=name, rows=0),)), ("entries", 0))
                self.assertEqual(wrong_place(entries=(entry(parameter=name, rows=0),)), ("entries", 0))
                self.assertEqual(wrong_place(entries=(entry(locals=((name, BIT),), rows=0),)), ("entries", 0))

    def test_no_sequences(self):
        for value in values():
            if isinstance(value, (list, tuple)):
                continue
            for part in ("classes", "foreign", "cells", "outs", "entries"):
                self.assertEqual(wrong_place(**{part: value}), (part, -1))
            self.assertEqual(wrong_place(entries=(entry(), entry(name="z", rows=value))), ("rows", 1, -1))
            self.assertEqual(wrong_place(entries=(entry(locals=value),)), ("entries", 0))
        self.assertEqual(wrong_place(entries=()), ("entries", -1))
        self.assertEqual(wrong_place(entries=[]), ("entries", -1))
        self.assertEqual(wrong_place(entries=(entry(rows=()),)), ("rows", 0, -1))

    def test_classes(self):
        for told in values() + [("jar", 0), ("jar", 17), ("jar", True), ("jar", "2"), ("jar", 2, 2), ("jar",), "jar"]:
            self.assertEqual(wrong_place(classes=(("box", 3), told, None), room=None), ("classes", 1))
        self.assertEqual(wrong_place(classes=(("box", 3), ("box", 2))), ("classes", 1))

    def test_room(self):
        for room in values() + [100]:
            if type(room) is not int or not 0 <= room <= 99:
                self.assertEqual(wrong_place(room=room, foreign=None), ("room",))

    def test_foreign(self):
        self.assertEqual(wrong_place(foreign=("far", "far")), ("foreign", 1))
        self.assertEqual(wrong_place(foreign=("far", "box")), ("foreign", 1))

    def test_cells(self):
        for told in values() + [
            ("z", BIT), ("z", BIT, 0), ("z", BIT, None), ("z", BOX, True), ("z", FAR, True), ("z", ("thing", "no"), False),
            ("z", ("num", 0), False), ("z", ("num", 17), True), ("z", ("num", True), True), ("z", ("num",), True),
            ("z", ("box",), False), ("z", ("num", 2, 2), True), ("z", "num", True), ("z", BIT, True, True), ("c", BIT, False),
            ("box", BIT, False), ("far", BIT, False), ("z", ("thing", 0), False), ("z", ("Num", 2), False),
            ("z", ("Thing", "box"), False), ("z", ("box", "box"), False), ("z", (["num"], 2), False), ("z", ("thing", ["box"]), False),
        ]:
            self.assertEqual(wrong_place(cells=CELLS[:2] + (told, None), outs=None), ("cells", 2))

    def test_outs(self):
        for told in values() + [
            ("z", BIT), ("z", BIT, BIT, BIT), ("z", BIT, ("thing", "no")), ("z", ("num", 99), BIT), ("g", BIT, BIT),
            ("box", BIT, BIT), ("far", BIT, BIT), ("c", BIT, BIT), ("z", None, BIT),
        ]:
            self.assertEqual(wrong_place(outs=(OUTS[0], told, None), entries=None), ("outs", 1))

    def test_entries(self):
        for told in values() + [
            entry()[:5], entry() + ((),), entry(parameter="c"), entry(parameter="k"), entry(name="g"), entry(name="box"),
            entry(name="far"), entry(name="c"), entry(name="f"), entry(**{"in": None}), entry(back=("thing", "no")),
            entry(locals=(("k", BIT), ("k", BIT))), entry(locals=(("x", BIT),)), entry(locals=(("c", BIT),)),
            entry(locals=(("k", BIT, False),)), entry(locals=("k",)), entry(locals=(("k", ("num", 0)),)),
        ]:
            first = entry(name="f")
            self.assertEqual(wrong_place(entries=(first, told, None)), ("entries", 1))

    def test_names_that_may_be_alike(self):
        # Parameters and locals may be called as classes, outs and entries are, the module as anything.
        for name in ("box", "far", "g", "e", "f", "main"):
            rows = (("back", name),)
            module(entries=(entry(locals=((name, BIT),), rows=rows), entry(name="f")))
            module(entries=(entry(**{"parameter": name, "in": BIT, "locals": (), "rows": rows}), entry(name="f")))
        for name in ("box", "c", "g", "e", "x"):
            self.assertEqual(module(name=name).name, name)

    def test_order(self):
        rows = (("set", "none", 0), ("back", "l"))
        entries = (entry(rows=rows), None)
        self.assertEqual(wrong_place(entries=entries), ("rows", 0, 0))
        entries = (entry(), entry(name="e", rows=rows))
        self.assertEqual(wrong_place(entries=entries), ("entries", 1))
        parts = {"entries": entries, "outs": (1,), "cells": (1,), "foreign": (1,), "room": None, "classes": (1,), "name": 1}
        places = [("name",), ("classes", 0), ("room",), ("foreign", 0), ("cells", 0), ("outs", 0), ("entries", 1)]
        for place in places:
            self.assertEqual(wrong_place(**parts), place)
            del parts[place[0]]


# Values that are no names of variables.
NOBODY = [value for value in values() if value != "e"] + ["no", "y"]


class Rows(unittest.TestCase):
    def of(self, *rows):
        return module(entries=(entry(rows=rows), ("f", "y", BOX, JAR, (), (("go", 0),))))

    def fit(self, *rows):
        for told in (rows, [list(row) for row in rows]):
            self.assertEqual(self.of(*told).entries[0][5], tuple(rows))

    def unfit(self, *rows):
        for row in rows:
            place = caught(InvalidModule, self.of, ("go", 2), row, ("back", "l"))
            self.assertEqual(place, ("rows", 0, 1), row)

    def test_fitting(self):
        last = ("back", "l")
        for name, size in (("c", 3), ("s", 2), ("x", 3), ("k", 3), ("box", 2)):
            for k in range(size):
                self.fit(("set", name, k), ("add", name, k), ("if", name, k, 3), last)
        self.fit(("copy", "x", "x"), ("copy", "c", "k"), ("copy", "bx", "by"), ("copy", "fa", "fb"), ("copy", "ja", "e"), last)
        self.fit(("go", 0))
        self.fit(("go", 1), ("show",))
        self.fit(("make", "by", "box", "k"), ("make", "ja", "jar", "l"), ("read", "k", "bx"), ("read", "l", "ja"), last)
        self.fit(("write", "by", "x"), ("write", "e", "s"), last)
        self.fit(("same", "by", "bx", 0), ("same", "by", "by", 3), ("same", "fa", "fb", 2), ("same", "of", "of", 1), last)
        self.fit(("call", "k", "g", "l"), ("call", "fa", "h", "by"), last)
        self.fit(last, last)
        self.fit(("show",), ("show",))

    def test_unfit_forms(self):
        self.unfit(*[value for value in values() if value != ("show",)])
        self.unfit(("set", "k", 0, 0), ("set", "k"), ("show", 0), ("back",), ("back", "l", "l"), ("go",), ("go", 0, 0))
        self.unfit(("Set", "k", 0), ("nothing", "k"), (["set"], "k", 0), ("copy", "k"), ("if", "k", 0), ("same", "by", "bx"))
        self.unfit(("make", "by", "box"), ("read", "k"), ("write", "by"), ("call", "k", "g"), ("add", "k"), ("never",))

    def test_unfit_numbers(self):
        for word in ("set", "add"):
            for k in values() + [3, -1]:
                if type(k) is not int or not 0 <= k < 3:
                    self.unfit((word, "k", k), ("if", "k", k, 0))
            for name in values() + ["by", "fa", "no", "y"]:
                self.unfit((word, name, 0), ("if", name, 0, 0))
            self.unfit((word, "l", 2), ("if", "s", 2, 0))

    def test_unfit_rows_led_to(self):
        for target in values() + [3, -1]:
            if type(target) is not int or not 0 <= target < 3:
                self.unfit(("go", target), ("if", "k", 0, target), ("same", "by", "bx", target))

    def test_unfit_copies(self):
        self.unfit(("copy", "k", "l"), ("copy", "by", "ja"), ("copy", "fa", "of"), ("copy", "by", "k"), ("copy", "fa", "by"))
        for name in NOBODY:
            self.unfit(("copy", "no", "no"), ("copy", "k", name), ("copy", name, "k"), ("copy", name, name))

    def test_unfit_things(self):
        self.unfit(("make", "by", "jar", "k"), ("make", "by", "jar", "l"), ("make", "by", "box", "l"), ("make", "k", "box", "k"))
        self.unfit(("make", "fa", "far", "k"), ("make", "by", "far", "k"), ("make", "by", "box", "by"), ("make", "ja", "box", "k"))
        self.unfit(("read", "l", "bx"), ("read", "k", "ja"), ("read", "k", "fa"), ("read", "k", "k"), ("read", "by", "bx"))
        self.unfit(("write", "bx", "l"), ("write", "ja", "k"), ("write", "fa", "k"), ("write", "k", "k"), ("write", "bx", "bx"))
        self.unfit(("read", "one", "fa"), ("read", "by", "k"), ("read", "no", "no"), ("read", "fa", "fa"), ("read", "one", "no"))
        self.unfit(("write", "fa", "one"), ("write", "k", "by"), ("write", "no", "no"), ("write", "fa", "fa"), ("write", "k", "one"))
        self.unfit(("make", "fa", "far", "one"), ("make", "fa", "far", "by"), ("make", "by", "no", "one"), ("make", "k", 3, "one"))
        self.unfit(("same", "by", "ja", 0), ("same", "fa", "of", 0), ("same", "k", "k", 0), ("same", "by", "fa", 0))
        for name in NOBODY:
            self.unfit(("make", name, "box", "k"), ("make", "by", name, "k"), ("make", "by", "box", name))
            self.unfit(("read", name, "bx"), ("read", "k", name), ("write", name, "k"), ("write", "bx", name))
            self.unfit(("same", name, "by", 0), ("same", "by", name, 0), ("same", name, name, 0))

    def test_unfit_calls_and_backs(self):
        self.unfit(("call", "l", "g", "l"), ("call", "k", "g", "k"), ("call", "fa", "h", "ja"), ("call", "of", "h", "by"))
        self.unfit(("call", "k", "e", "l"), ("call", "k", "no", "l"), ("back", "k"), ("back", "by"))
        for name in NOBODY:
            self.unfit(("call", "k", name, "l"), ("call", name, "g", "l"), ("call", "k", "g", name), ("back", name))

    def test_last_rows(self):
        for row in [
            ("set", "k", 0), ("copy", "k", "x"), ("add", "k", 1), ("if", "k", 0, 0), ("make", "by", "box", "k"),
            ("read", "k", "by"), ("write", "by", "k"), ("same", "by", "bx", 0), ("call", "k", "g", "l"),
        ]:
            self.assertEqual(caught(InvalidModule, self.of, row), ("rows", 0, 0))
            self.assertEqual(caught(InvalidModule, self.of, ("go", 1), row), ("rows", 0, 1))
            self.assertEqual(caught(InvalidModule, self.of, None, row), ("rows", 0, 0))
            self.fit(row, ("go", 0))

    def test_variables_of_other_entries(self):
        rows = (("back", "y"),)
        self.assertEqual(wrong_place(entries=(entry(), ("f", "y", BOX, JAR, (), (("copy", "k", "k"), ("go", 0))))), ("rows", 1, 0))
        self.assertEqual(wrong_place(entries=(entry(rows=rows),)), ("rows", 0, 0))


class Told(unittest.TestCase):
    def setUp(self):
        rows = (("call", "k", "g", "l"), ("go", 2), ("call", "k", "g", "s"), ("back", "l"))
        last = ("f", "y", BOX, FAR, (("z", FAR),), (("call", "z", "h", "y"), ("back", "z")))
        self.module = module(entries=(entry(rows=rows), entry(name="i"), last))

    def test_places(self):
        for at, name in enumerate(("e", "i", "f")):
            self.assertEqual(self.module.entry_at(name), at)
        self.assertEqual((self.module.out_at("g"), self.module.out_at(name="h")), (0, 1))
        self.assertEqual(self.module.entry_at(name="f"), 2)

    def test_no_names(self):
        for call in (self.module.entry_at, self.module.out_at, self.module.variables):
            for name in values() + ["x", "c", "box", "far", "g" if call != self.module.out_at else "i"]:
                if name != "e" or call == self.module.out_at:
                    self.assertIs(caught(NoName, call, name), name)

    def test_variables(self):
        cells = (("c", DIGIT), ("s", BIT), ("d", DIGIT), ("bx", BOX))
        self.assertEqual(self.module.variables("f"), cells + (("y", BOX), ("z", FAR)))
        self.assertEqual(self.module.variables(name="e"), cells + (("x", DIGIT),) + LOCALS)

    def test_calls(self):
        self.assertEqual(self.module.calls(), ((0, 0), (0, 2), (2, 0)))
        self.assertEqual(module().calls(), ())

    def test_secrets(self):
        self.assertEqual(self.module.secret_cells(), (1, 2))
        self.assertEqual(self.module.all_secrets(), tuple((s, d) for s in range(2) for d in range(3)))
        made = module(cells=CELLS[:1])
        self.assertEqual(made.secret_cells(), ())
        self.assertEqual(made.all_secrets(), ((),))
        made = module(cells=(("a", ("num", 1), True), ("b", ("num", 16), True)))
        self.assertEqual(made.all_secrets(), tuple((0, b) for b in range(16)))


if __name__ == "__main__":
    unittest.main()
