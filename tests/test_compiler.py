"""[18], [19] Code, and code read back."""

import random
import unittest

from nomoreseen.compiler import Code, compiled
from nomoreseen.errors import InvalidBook, InvalidCode, InvalidModule, InvalidSpots
from nomoreseen.modules import Book, Module
from nomoreseen.readback import read_code
from nomoreseen.spots import spots
from tests.anything import caught, values
from tests.makers import random_book, random_doors, random_guest
from tests.scripts import random_guards
from tests.test_machine import module_of

BOOK = Book(5, True, 2, True, False)
EVERY = module_of(
    "class box 2", "class jar 5", "room 3", "foreign far", "cell n num 2", "secret s num 5", "out g thing box thing jar", "out h num 5 num 2",
    "entry e b thing box thing box", "local k thing jar", "local w num 5",
    "set n 1", "copy n n", "add w 3", "if w 4 6", "make b box n", "read n b", "write k w", "same b b 0", "call k g b", "call n h w", "go 11",
    "back b", "entry f z num 2 num 5", "back s", "entry p q thing far thing far", "back q",
)


class Codes(unittest.TestCase):
    def test_all_bare(self):
        code = compiled(BOOK, EVERY, ())
        self.assertIs(code.book, BOOK)
        self.assertIs(code.module, EVERY)
        self.assertEqual(code.guards, ())
        # Variables: n, s, b, k, w.
        self.assertEqual(code.doors, ((("within", False), ("store", 2, 0)), (("store", 2, 0),), (("store", 2, 0),)))
        self.assertEqual(code.blocks, ((
            (("const", 1, 1), ("store", 0, 1)),
            (("load", 1, 0), ("store", 0, 1)),
            (("load", 1, 4), ("plus", 1, 3, 5), ("store", 4, 1)),
            (("load", 1, 4), ("equal", 1, 4), ("jumpif", 6)),
            (("load", 1, 0), ("make", 2, 0), ("store", 2, 2)),
            (("load", 2, 2), ("field", 1, 2), ("store", 0, 1)),
            (("load", 2, 3), ("load", 1, 4), ("putfield", 2, 1)),
            (("load", 1, 2), ("load", 2, 2), ("same", 1, 2), ("jumpif", 0)),
            (("load", 0, 2), ("hand", 0, False), ("lay", 0), ("out", 0)),
            (("load", 0, 4), ("lay", 1), ("out", 1)),
            (("jump", 11),),
            (("load", 0, 2), ("hand", 0, False), ("answer",)),
        ), ((("load", 0, 1), ("answer",)),), ((("load", 0, 2), ("answer",)),)))
        self.assertEqual(code.behind, ((("within", False), ("store", 3, 0)), (("store", 0, 0),)))
        self.assertEqual(code.resume, (("resume",),))

    def test_all_guarded(self):
        code = compiled(BOOK, EVERY, spots(BOOK, EVERY))
        self.assertEqual(code.doors, (
            (("alone",), ("given", True), ("class", 0, True), ("within", True), ("store", 2, 0)),
            (("alone",), ("below", 2), ("store", 2, 0)), (("alone",), ("store", 2, 0)),
        ))
        self.assertEqual(code.blocks[0][8], (("load", 0, 2), ("hand", 0, True), ("own", 0), ("wipe",), ("out", 0)))
        self.assertEqual(code.blocks[0][9], (("load", 0, 4), ("own", 1), ("wipe",), ("out", 1)))
        self.assertEqual(code.blocks[0][11], (("load", 0, 2), ("hand", 0, True), ("wipe",), ("answer",)))
        self.assertEqual(code.blocks[1:], (((("load", 0, 1), ("wipe",), ("answer",)),), ((("load", 0, 2), ("wipe",), ("answer",)),)))
        self.assertEqual(code.behind, (
            (("given", True), ("class", 1, True), ("within", True), ("store", 3, 0)), (("below", 2), ("store", 0, 0)),
        ))
        self.assertEqual(code.resume, (("idle",), ("resume",)))
        self.assertEqual(code.told[:2], (BOOK.told, EVERY.told[:6] + (tuple(entry[:5] + ((),) for entry in EVERY.entries),)))
        self.assertEqual(code.told[2:], (code.doors, code.blocks, code.behind, code.resume))

    def test_each_guard_by_itself(self):
        bare = compiled(BOOK, EVERY, ())
        changed = {
            ("alone", "e"): 2, ("alone", "f"): 2, ("below", "f"): 2, ("below", "h"): 4, ("given", "e"): 2, ("given", "g"): 4,
            ("class", "e"): 2, ("class", "g"): 4, ("frame", "g"): 3, ("frame", "h"): 3, ("wipe", "e"): 3, ("wipe", "f"): 3, ("wipe", "g"): 3,
            ("wipe", "h"): 3, ("idle", ""): 5,
        }
        for spot in spots(BOOK, EVERY):
            code = compiled(BOOK, EVERY, (spot,))
            unlike = [at for at in range(6) if code.told[at] != bare.told[at]]
            self.assertEqual(unlike, [2, 3, 4] if spot == ("number", "") else [changed.get(spot, 3 if spot[0] == "wipe" else 2)], spot)

    def test_guards_in_any_order(self):
        every = spots(BOOK, EVERY)
        code = Code(BOOK, EVERY, every)
        for told in (list(every), list(every[::-1]), [list(spot) for spot in every[::-1]]):
            for made in (Code(BOOK, EVERY, told), compiled(BOOK, EVERY, told), compiled(guards=told, module=EVERY, book=BOOK)):
                self.assertEqual((made.guards, made.told), (every, code.told))
                self.assertIsInstance(made, Code)
        told = [["wipe", "e"]]
        made = Code(BOOK, EVERY, told)
        told[0][1] = "f"
        self.assertEqual(made.guards, (("wipe", "e"),))

    def test_wrong_arguments(self):
        for make in (Code, compiled):
            self.assertEqual(caught(InvalidSpots, make, BOOK, EVERY, (("wipe", "e"), ("idle", ""), ["wipe", "e"])), 2)
            self.assertEqual(caught(InvalidSpots, make, BOOK, EVERY, [("below", "e")]), 0)
            self.assertEqual(caught(InvalidSpots, make, BOOK, EVERY, None), -1)
            self.assertEqual(caught(InvalidModule, make, Book(5, True, 1, True, False), EVERY, None), ("classes", 1))
            self.assertEqual(caught(InvalidModule, make, Book(3, True, 2, True, False), EVERY, None), ("classes", 1))
            for value in values():
                if not isinstance(value, Book):
                    self.assertEqual(caught(InvalidBook, make, value, None, None), "book")
                if not isinstance(value, Module):
                    self.assertEqual(caught(InvalidModule, make, BOOK, value, None), ("module",))
                if value != () and value != []:
                    caught(InvalidSpots, make, BOOK, EVERY, value)

    def test_guest_without_calls(self):
        book = Book(3, False, 0, True, False)
        code = compiled(book, module_of("room 0", "entry e x num 3 num 3", "back x"), [("wipe", "e")])
        self.assertEqual(code.told[2:], (((("store", 0, 0),),), (((("load", 0, 0), ("wipe",), ("answer",)),),), (), (("resume",),)))


def variations(value, rng, many):
    """The value with a small change somewhere."""
    places = []

    def visit(part, at):
        places.append(at)
        if type(part) is tuple:
            for number, inner in enumerate(part):
                visit(inner, at + (number,))

    visit(value, ())

    def changed(part, at, change):
        if not at:
            return change(part)
        return part[:at[0]] + (changed(part[at[0]], at[1:], change),) + part[at[0] + 1:]

    def change(part):
        if type(part) is tuple:
            return rng.choice([list(part), part[:-1], part + (0,), part + part[-1:], part[::-1], (), part[1:]])
        if type(part) is bool:
            return rng.choice([int(part), not part])
        if type(part) is int:
            return rng.choice([part + 1, part - 1, str(part)] + ([bool(part)] if part in (0, 1) else []))
        return rng.choice(["", "e", "n", "wipe", None, (), str(part) + "x"])

    for _ in range(many):
        yield changed(value, rng.choice(places), change)


class ReadBack(unittest.TestCase):
    def check(self, book, module, guards):
        read = read_code(compiled(book, module, guards).told)
        self.assertIs(type(read), tuple)
        self.assertIsInstance(read[0], Book)
        self.assertIsInstance(read[1], Module)
        self.assertEqual((read[0].told, read[1].told, read[2]), (book.told, module.told, guards))

    def test_every_row_and_guard(self):
        for spot in spots(BOOK, EVERY):
            self.check(BOOK, EVERY, (spot,))
            self.check(BOOK, EVERY, tuple(told for told in spots(BOOK, EVERY) if told != spot))

    def test_random_codes(self):
        rng = random.Random(19)
        for _ in range(300):
            book = random_book(rng)
            module = random_guest(rng, book, random_doors(rng, book), rows=8)
            self.check(book, module, random_guards(rng, book, module))

    def test_small_changes(self):
        # What is read must be the code that is told: else there is none.
        rng = random.Random(20)
        read = 0
        for _ in range(25):
            book = random_book(rng)
            module = random_guest(rng, book, random_doors(rng, book))
            told = compiled(book, module, random_guards(rng, book, module)).told
            for value in variations(told, rng, 60):
                if repr(value) == repr(told):
                    continue
                try:
                    back = read_code(value)
                except InvalidCode as error:
                    self.assertEqual(error.at, -1)
                    continue
                read += 1
                self.assertEqual(repr(compiled(*back).told), repr(value))
        self.assertGreater(read, 20)

    def test_wrong_values(self):
        told = compiled(BOOK, EVERY, ()).told
        wrong = values() + [compiled(BOOK, EVERY, ()), list(told), told[:5], told + ((),), told[:2] + (list(told[2]),) + told[3:]]
        wrong += [
            told[:5] + ((("idle",),),), told[:5] + ((("idle",), ("idle",), ("resume",)),), told[:5] + ((),),
            told[:5] + ((("resume",), ("idle",)),), (Book(3, True, 2, True, False).told,) + told[1:], (BOOK,) + told[1:],
            ((5, 1, 2, True, False),) + told[1:], ((5, True, True, True, False),) + told[1:], told[:1] + (EVERY.told,) + told[2:],
        ]
        for at in range(6):
            wrong += [told[:at] + (value,) + told[at + 1:] for value in values()]
        for value in wrong:
            self.assertEqual(caught(InvalidCode, read_code, value), -1, value)
        self.check_forged_rows(told)
        # Forged shapes: a jump out of the rows, a call whose guard stands but once, a thing in a number's place.
        book, module = Book(3, False, 0, True, False), module_of(
            "room 0", "out g num 3 num 3", "entry e x num 3 num 3", "call x g x", "call x g x", "back x")
        right = compiled(book, module, ()).told
        half = right[3][0][:1] + ((("load", 0, 0), ("own", 1), ("out", 0)),) + right[3][0][2:]
        for blocks in (half, right[3][0][:2] + ((("jump", 3),),), right[3][0][:1] + right[3][0][:1] + right[3][0][2:], right[3][0][:2]):
            self.assertEqual(caught(InvalidCode, read_code, right[:3] + ((blocks,),) + right[4:]), -1)
        self.assertEqual(read_code(value=right)[1].told, module.told)

    def check_forged_rows(self, told):
        odd = [(), ("load",), ("resume",), ("idle",), ("answer",), ([],), (["load"], 0, 0), (None,), ("own", 9), ("own", None), ("out", 5), ("out", []),
               ("jump", 0, 0), ("hand", 0, True), ("load", 0, 99), ("load", 0, [0]), ("store", [], 0), ("make", 2, 7), "load", None, 5, ["jump", 0]]

        def put(value, at, row):
            """The value with another row, or none, or the row twice, at this place."""
            if len(at) == 1:
                rows = {"none": (), "twice": value[at[0]:at[0] + 1] * 2}.get(row, (row,)) if isinstance(row, str) else (row,)
                return value[:at[0]] + rows + value[at[0] + 1:]
            return value[:at[0]] + (put(value[at[0]], at[1:], row),) + value[at[0] + 1:]

        places = [(part, entry, row) for part in (2, 4) for entry, rows in enumerate(told[part]) for row in range(len(rows))]
        places += [(3, entry, block, row) for entry, blocks in enumerate(told[3]) for block, rows in enumerate(blocks) for row in range(len(rows))]
        for at in places + [(5, 0)]:
            for row in odd + ["none", "twice"]:
                value = put(told, at, row)
                if repr(value) == repr(told):
                    continue
                try:
                    self.assertEqual(repr(compiled(*read_code(value)).told), repr(value))
                except InvalidCode as error:
                    self.assertEqual(error.at, -1)
        heads = told[1][6]
        for wrong in (heads[:2] + (heads[2][:5],), heads[:2] + (list(heads[2]),), heads[:2] + (heads[2][:4] + ([], ()),), heads[:2] + (5,)):
            self.assertEqual(caught(InvalidCode, read_code, told[:1] + (told[1][:6] + (wrong,),) + told[2:]), -1)
        for head in (told[1][:6], told[1] + ((),), told[1][:5] + (list(told[1][5]), heads), told[1][:5] + (None, heads)):
            self.assertEqual(caught(InvalidCode, read_code, told[:1] + (head,) + told[2:]), -1)


if __name__ == "__main__":
    unittest.main()
