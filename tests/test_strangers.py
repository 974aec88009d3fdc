"""[16], [17] Strangers as rows, their runs, and texts of scripts."""

import random
import unittest

from nomoreseen.compiler import compiled
from nomoreseen.errors import InvalidCode, InvalidModule, InvalidScript, InvalidSecrets, InvalidSize, InvalidStranger, InvalidText, Refused
from nomoreseen.modules import Book
from nomoreseen.sights import sights
from nomoreseen.spots import spots
from nomoreseen.strangers import Stranger, parted_by, read_script, script_stranger, script_text, stranger_run
from tests import makers
from tests.anything import MODULE, caught, no_numbers, values
from tests.scripts import random_guards, random_script
from tests.test_machine import code_of, module_of

BOOK = Book(4, True, 2, True, False)
NEVER = (("never",),)
# It answers what it is asked, and shows its secret in R1; f calls out with its frame laid open.
GUEST = module_of("room 0", "secret s num 4", "out g num 4 num 4", "out h num 4 num 4", "entry e x num 4 num 4", "copy s s", "back x",
                  "entry f x num 4 num 4", "local t num 4", "add x 1", "call t g x", "add t 1", "back t", "entry k x num 4 num 4", "call x h x",
                  "back x")
BARE = compiled(BOOK, GUEST, ())
ROWS = [
    ("const", 0, 3), ("const", 2, 10 ** 9), ("plus", 0, 2), ("equal", 1, 2), ("jump", 0), ("jumpif", 18), ("load", 0, 1), ("store", 0, 2),
    ("peek", 0, 5, 7), ("poke", 7, 5, 0), ("which", 2), ("enter", "e", 0), ("enter", "nobody", 2), ("reply", 1), ("end",),
]
WRONG = [
    (), [], None, "end", 3, ("const",), ("const", 3, 0), ("const", 0, -1), ("const", True, 0), ("const", 0, True), ("const", 0, 0, 0),
    ("const", "0", 0), ("plus", 0, 3), ("plus", 0), ("equal", -1, 0), ("equal", 0, None), ("jump", 21), ("jump", -1), ("jump",), ("jump", 0, 0),
    ("jumpif", 21), ("jumpif", False), ("load", 3, 0), ("load", 0, 2), ("load", 0, -1), ("store", 2, 0), ("store", 0, 3), ("peek", 3, 0, 0),
    ("peek", 0, -1, 0), ("peek", 0, 0, "0"), ("peek", 0, 0), ("poke", 0, 0, 3), ("poke", -1, 0, 0), ("poke", 0, True, 0), ("which", 3), ("which",),
    ("enter", "E", 0), ("enter", "", 0), ("enter", "aaaaaaaaa", 0), ("enter", 0, 0), ("enter", "e", 3), ("enter", "e"), ("reply", 3), ("reply",),
    ("end", 0), ("stop",), (["end"],), (0,), ((),),
]


class Rows(unittest.TestCase):
    def test_right_ones(self):
        for rows in (ROWS + [("end",)] * 4, [list(row) for row in ROWS + [("end",)] * 4]):
            made = Stranger(2, rows)
            self.assertEqual((made.cells, made.rows, made.told), (2, tuple(ROWS + [("end",)] * 4), (2, tuple(ROWS + [("end",)] * 4))))
        self.assertEqual(Stranger(cells=16, rows=()).told, (16, ()))
        self.assertEqual(Stranger(0, []).rows, ())

    def test_wrong_ones(self):
        for value in no_numbers(16):
            self.assertEqual(caught(InvalidSize, Stranger, value, ()), "cells")
            self.assertEqual(caught(InvalidSize, Stranger, value, None), "cells")
        for value in values():
            if not isinstance(value, (list, tuple)):
                self.assertEqual(caught(InvalidStranger, Stranger, 0, value), -1)
            elif value:
                self.assertEqual(caught(InvalidStranger, Stranger, 0, value), 0)
        for wrong in WRONG + values():
            self.assertEqual(caught(InvalidStranger, Stranger, 2, ROWS + [("end",)] * 4 + [wrong, None]), len(ROWS) + 4)
        self.assertEqual(caught(InvalidStranger, Stranger, 0, [("end",), ("load", 0, 0)]), 1)

    def test_later_changes_of_rows(self):
        rows = [["const", 0, 1], ["end"]]
        made = Stranger(0, rows)
        rows[0][2] = 3
        rows.append(None)
        self.assertEqual(made.told, (0, (("const", 0, 1), ("end",))))


class Runs(unittest.TestCase):
    def run_of(self, *rows, cells=3, most=1000, code=BARE, secrets=(2,)):
        return stranger_run(code, secrets, Stranger(cells, rows), most)

    def test_how_it_ends(self):
        self.assertEqual(self.run_of(), ((), (), "end"))
        self.assertEqual(self.run_of(("end",)), ((), (), "end"))
        self.assertEqual(self.run_of(most=0), ((), (), "most"))
        self.assertEqual(self.run_of(("end",), most=0), ((), (), "most"))
        self.assertEqual(self.run_of(("end",), most=1), ((), (), "end"))
        self.assertEqual(self.run_of(("const", 0, 1), most=1), ((), (), "most"))
        self.assertEqual(self.run_of(("const", 0, 1), most=2), ((), (), "end"))
        self.assertEqual(self.run_of(("const", 0, 1), ("end",), most=1), ((), (), "most"))
        self.assertEqual(self.run_of(("jump", 0), most=10000), ((), (), "most"))
        self.assertEqual(self.run_of(("reply", 0), ("jump", 1), most=1, code=code_of(BOOK, GUEST)), ((NEVER,), (("back", 0, ()),), "never"))
        self.assertEqual(self.run_of(("enter", "e", 0), most=1), (((("back", 0), 2, 0, 0, ()),), (("call", "e", 0, ()),), "most"))

    def test_rows_of_registers(self):
        # What stands in a register is shown by what e answers.
        def shown(*rows, register=0, **more):
            seen, script, _ = self.run_of(*rows, ("enter", "e", register), **more)
            return script[-1][2]

        self.assertEqual([shown(register=at) for at in range(3)], [0, 0, 0])
        self.assertEqual(shown(("const", 0, 3), ("peek", 0, 0, 0)), 0)
        self.assertEqual(shown(("const", 2, 3), register=2), 3)
        self.assertEqual(shown(("const", 0, 3), ("const", 1, 2), ("plus", 0, 1)), 1)
        self.assertEqual(shown(("const", 0, 3), ("plus", 0, 0)), 2)
        self.assertEqual(shown(("const", 0, 3), ("store", 2, 0), ("const", 0, 1), ("load", 1, 2), register=1), 3)
        self.assertEqual(shown(("load", 0, 2)), 0)
        self.assertEqual(shown(("equal", 0, 1), ("jumpif", 3), ("const", 0, 3)), 0)
        self.assertEqual(shown(("const", 1, 1), ("equal", 0, 1), ("jumpif", 4), ("const", 0, 3)), 3)
        self.assertEqual(shown(("jumpif", 2), ("const", 0, 2), ("jump", 4), ("const", 0, 1)), 2)

    def test_what_an_out_move_leaves(self):
        # R1 has the secret; Z is 0 again; the next row is run.
        seen, script, how = self.run_of(
            ("equal", 0, 0), ("const", 0, 3), ("const", 2, 1), ("enter", "e", 0), ("jumpif", 7), ("enter", "e", 1), ("enter", "e", 2), ("end",))
        self.assertEqual([deed[2] for deed in script], [3, 2, 0])
        self.assertEqual(([sight[0] for sight in seen], how), ([("back", 3), ("back", 2), ("back", 0)], "end"))
        # R0 is what went out.
        _, script, _ = self.run_of(("const", 0, 1), ("enter", "f", 0), ("reply", 0), ("reply", 1))
        self.assertEqual(script, (("call", "f", 1, ()), ("back", 2, ()), ("back", 3, ())))

    def test_which(self):
        outs = self.run_of(("which", 0), ("enter", "e", 0), ("enter", "f", 0), ("which", 0), ("reply", 0), ("which", 0), ("enter", "k", 0),
                           ("which", 0), ("enter", "e", 0))[1]
        self.assertEqual([deed[-2] for deed in outs], [0, 0, 1, 0, 2])
        # Three outs and the word 3: the last out is told by 0 again.
        book = Book(3, True, 0, True, False)
        guest = module_of("room 0", "out g num 3 num 3", "out h num 3 num 3", "out i num 3 num 3", "entry e x num 3 num 3", "if x 0 4", "if x 1 6",
                          "call x i x", "back x", "call x g x", "back x", "call x h x", "back x")
        for word, which in ((0, 1), (1, 2), (2, 0)):
            run = stranger_run(compiled(book, guest, ()), (), Stranger(0, [("const", 0, word), ("enter", "e", 0), ("which", 1), ("enter", "e", 1)]), 9)
            self.assertEqual([deed[2] for deed in run[1]], [word, which])

    def test_open_frames(self):
        seen, script, how = self.run_of(
            ("const", 0, 2), ("poke", 0, 0, 0), ("enter", "f", 0), ("peek", 0, 0, 0), ("peek", 1, 0, 2), ("peek", 2, 1, 0), ("const", 2, 1),
            ("poke", 0, 1, 2), ("poke", 3, 4, 0), ("poke", 0, 0, 2), ("peek", 0, 0, 0), ("poke", 0, 9, 0), ("reply", 0), ("poke", 5, 5, 1))
        self.assertEqual(seen[0], (("call", "g", 3), 3, 0, 0, ((3, 0),)))
        self.assertEqual(script, (("call", "f", 2, ((0, 0, 2),)), ("back", 1, ((0, 1, 1), (3, 4, 3), (0, 0, 1), (0, 9, 1)))))
        self.assertEqual((seen[1], how), ((("back", 2), 2, 0, 0, ()), "end"))

    def test_errors_in_their_order(self):
        run = Stranger(0, [("enter", "e", 0), ("const", 0, 4), ("enter", "g", 0)])
        for value in values():
            self.assertEqual(caught(InvalidCode, stranger_run, value, None, None, None), ("code",))
            self.assertEqual(caught(InvalidStranger, stranger_run, BARE, (0,), value, None), -1)
        self.assertEqual(caught(InvalidSecrets, stranger_run, BARE, (4,), None, None), 0)
        self.assertEqual(caught(InvalidSecrets, stranger_run, BARE, (), None, None), -1)
        self.assertEqual(caught(InvalidStranger, stranger_run, BARE, (0,), run, -1), 1)
        self.assertEqual(caught(InvalidStranger, stranger_run, BARE, (0,), Stranger(0, [("const", 0, 3), ("enter", "g", 0)]), None), 1)
        for value in no_numbers(10000):
            self.assertEqual(caught(InvalidSize, stranger_run, BARE, (0,), Stranger(0, ()), value), "most")
        self.assertEqual(stranger_run(code=BARE, secrets=[0], stranger=Stranger(0, ()), most=10000)[2], "end")


def random_stranger(rng, code, many=15):
    word, names = code.book.word, [entry[0] for entry in code.module.entries]
    rows = []
    for _ in range(rng.randint(1, many)):
        x, y, k, r = rng.randrange(3), rng.randrange(3), rng.randrange(word), rng.randrange(many)
        f, p, c = rng.randrange(2), rng.randrange(3), rng.randrange(3)
        rows.append(rng.choice([
            ("const", x, k), ("const", x, k), ("plus", x, y), ("equal", x, y), ("jump", r), ("jumpif", r), ("load", x, c), ("store", c, x),
            ("peek", x, f, p), ("poke", f, p, x), ("poke", f, p, x), ("which", x), ("enter", rng.choice(names), x), ("enter", rng.choice(names), x),
            ("reply", x), ("reply", x), ("end",),
        ]))
    return Stranger(3, [row if row[0] not in ("jump", "jumpif") else (row[0], row[1] % len(rows)) for row in rows])


class Theorem(unittest.TestCase):
    def test_sights_are_those_of_the_script(self):
        rng = random.Random(17)
        ways = {"end": 0, "never": 0, "most": 0, "parted": 0}
        for _ in range(700):
            book = makers.random_book(rng)
            doors = makers.random_doors(rng, book)
            one, other = makers.random_guest(rng, book, doors), makers.random_guest(rng, book, doors)
            codes = [compiled(book, guest, random_guards(rng, book, guest)) for guest in (one, other)]
            pair = [rng.choice(guest.all_secrets()) for guest in (one, other)]
            stranger = random_stranger(rng, codes[0])
            seen, script, how = stranger_run(codes[0], pair[0], stranger, 60)
            ways[how] += 1
            self.assertEqual(sights(codes[0], pair[0], script), seen)
            self.assertEqual(how == "never", seen[-1:] == (NEVER,))
            seen_other, _, _ = stranger_run(codes[1], pair[1], stranger, 60)
            unlike = [at for at in range(min(len(seen), len(seen_other))) if seen[at] != seen_other[at]]
            found = parted_by(codes[0], codes[1], pair, stranger, 60)
            self.assertEqual(found, script[:unlike[0] + 1] if unlike else None)
            if unlike:
                ways["parted"] += 1
                self.assertEqual(sights(codes[1], pair[1], found), seen_other[:len(found)])
            self.assertIsNone(parted_by(codes[0], codes[0], (pair[0], pair[0]), stranger, 60))
            told = script_stranger(codes[0], script)
            self.assertEqual((told.cells, stranger_run(codes[0], pair[0], told, 1000)[:2]), (0, (seen, script)))
        self.assertGreater(min(ways.values()), 40, ways)


class Parting(unittest.TestCase):
    def test_two_secrets(self):
        stranger = Stranger(0, [("enter", "f", 0), ("reply", 0), ("enter", "e", 0), ("enter", "e", 0)])
        script = (("call", "f", 0, ()), ("back", 1, ()), ("call", "e", 2, ()))
        self.assertEqual(parted_by(BARE, BARE, ((0,), (1,)), stranger, 99), script)
        self.assertEqual(parted_by(one=BARE, other=BARE, secrets=[[0], [1]], stranger=stranger, most=3), script)
        self.assertIsNone(parted_by(BARE, BARE, ((0,), (1,)), stranger, 2))
        self.assertIsNone(parted_by(BARE, BARE, ((1,), (1,)), stranger, 99))
        wiped = code_of(BOOK, GUEST)
        self.assertIsNone(parted_by(wiped, wiped, ((0,), (1,)), stranger, 99))

    def test_errors_in_their_order(self):
        unlike_book = compiled(Book(5, True, 2, True, False), GUEST, ())
        unlike_doors = compiled(BOOK, module_of("room 0", "entry e x num 4 num 4", "back x"), ())
        unlike_classes = [compiled(BOOK, module_of(f"class {name} 4", "room 0", "entry e x num 4 num 4", "back x"), ()) for name in ("box", "jar")]
        wrong = Stranger(0, [("enter", "z", 0)])
        for value in values():
            self.assertEqual(caught(InvalidCode, parted_by, value, None, None, None, None), ("code",))
            self.assertEqual(caught(InvalidCode, parted_by, BARE, value, None, None, None), ("code",))
            if not isinstance(value, (list, tuple)) or len(value) != 2:
                self.assertEqual(caught(InvalidSize, parted_by, BARE, BARE, value, None, None), "secrets")
            self.assertEqual(caught(InvalidStranger, parted_by, BARE, BARE, ((0,), (0,)), value, None), -1)
        self.assertEqual(caught(InvalidSize, parted_by, BARE, unlike_book, None, None, None), "books")
        self.assertEqual(caught(InvalidModule, parted_by, BARE, unlike_doors, None, None, None), ("entries", -1))
        self.assertEqual(caught(InvalidModule, parted_by, *unlike_classes, None, None, None), ("classes", -1))
        self.assertEqual(caught(InvalidSecrets, parted_by, BARE, BARE, ((4,), (5,)), None, None), 0)
        self.assertEqual(caught(InvalidSecrets, parted_by, BARE, BARE, ((0,), ()), None, None), -1)
        self.assertEqual(caught(InvalidSecrets, parted_by, BARE, BARE, ((0,), (True,)), None, None), 0)
        self.assertEqual(caught(InvalidStranger, parted_by, BARE, BARE, ((0,), (0,)), wrong, None), 0)
        for value in no_numbers(10000):
            self.assertEqual(caught(InvalidSize, parted_by, BARE, BARE, ((0,), (0,)), Stranger(0, ()), value), "most")
        # Equal books are one, though they are two objects.
        again = compiled(Book(4, True, 2, True, False), GUEST, spots(BOOK, GUEST))
        self.assertEqual(parted_by(BARE, again, ((1,), (1,)), Stranger(0, [("enter", "e", 0)]), 9), (("call", "e", 0, ()),))


class Scripts(unittest.TestCase):
    SCRIPT = (("call", "e", 3, ()), ("call", "f", 0, ((0, 1, 2), (9, 9, 3))), ("back", 0, ((0, 0, 1),)))
    TEXT = "call e 3\ncall f 0 poke 0 1 2 poke 9 9 3\nback 0 poke 0 0 1"

    def test_stranger_of_a_script(self):
        made = script_stranger(BARE, self.SCRIPT)
        self.assertEqual(made.told, (0, (
            ("const", 0, 3), ("enter", "e", 0), ("const", 0, 2), ("poke", 0, 1, 0), ("const", 0, 3), ("poke", 9, 9, 0), ("const", 0, 0),
            ("enter", "f", 0), ("const", 0, 1), ("poke", 0, 0, 0), ("const", 0, 0), ("reply", 0))))
        self.assertEqual(stranger_run(BARE, (1,), made, 60), (sights(BARE, (1,), self.SCRIPT), self.SCRIPT, "end"))
        self.assertEqual(script_stranger(code=BARE, script=[]).told, (0, ()))
        # Up to the first never: what stands behind it is not done.
        guarded = code_of(BOOK, GUEST)
        script = (("call", "e", 0, ()), ("back", 0, ()), ("call", "e", 1, ()))
        run = stranger_run(guarded, (1,), script_stranger(guarded, script), 60)
        self.assertEqual(run[1:], (script[:2], "never"))
        self.assertEqual(caught(Refused, sights, guarded, (1,), script), 2)

    def test_texts_there_and_back(self):
        self.assertEqual(script_text(BARE, self.SCRIPT), self.TEXT)
        self.assertEqual(script_text(code=BARE, script=[[*deed[:-1], list(map(list, deed[-1]))] for deed in self.SCRIPT]), self.TEXT)
        self.assertEqual(read_script(BARE, self.TEXT), self.SCRIPT)
        self.assertEqual(read_script(code=BARE, text="  call   e  3 \n call f 0 poke 0  1 2 poke 9 9 3\nback   0 poke 0 0 1  "), self.SCRIPT)
        self.assertEqual((script_text(BARE, ()), read_script(BARE, "")), ("", ()))
        self.assertEqual(read_script(BARE, "back 0 poke 999999999 0 1"), (("back", 0, ((999999999, 0, 1),)),))
        rng = random.Random(10)
        for _ in range(200):
            book = makers.random_book(rng)
            guest = makers.random_guest(rng, book, makers.random_doors(rng, book))
            code = compiled(book, guest, random_guards(rng, book, guest))
            script = random_script(rng, code, guest.all_secrets()[0], 8)
            self.assertEqual(read_script(code, script_text(code, script)), script)

    def test_wrong_scripts(self):
        for value in values():
            self.assertEqual(caught(InvalidCode, script_text, value, None), ("code",))
            self.assertEqual(caught(InvalidCode, script_stranger, value, None), ("code",))
            self.assertEqual(caught(InvalidCode, read_script, value, None), ("code",))
            for call in (script_text, script_stranger):
                if not isinstance(value, (list, tuple)):
                    self.assertEqual(caught(InvalidScript, call, BARE, value), -1)
                self.assertEqual(caught(InvalidScript, call, BARE, [("back", 0, ()), value, None]), 1)
            if not isinstance(value, str):
                self.assertEqual(caught(InvalidText, read_script, BARE, value), -1)

    def test_wrong_lines(self):
        wrong = [
            "", " ", "call", "call e", "call e 4", "call e x", "call z 0", "call e 0 0", "call e 00", "call e 01", "call e -1", "call e 0 poke",
            "call e 0 poke 0 0", "call e 0 poke 0 0 4", "call e 0 poke 0 0 0 0", "call e 0 puke 0 0 0", "call e 0 poke a 0 0", "back", "back 4",
            "back 0 0", "back e 0", "back 0 poke 0 0", "back 0 poke 1000000000 0 0", "Call e 0", "never", "3", "poke 0 0 0", "call 0 0", "back\t0",
        ]
        for line in wrong:
            self.assertEqual(caught(InvalidText, read_script, BARE, "call e 0\n" + line + "\nback 9"), 1, line)
        self.assertEqual(caught(InvalidText, read_script, BARE, "\n"), 0)
        self.assertEqual(caught(InvalidText, read_script, BARE, "back 0\n"), 1)
        self.assertEqual(caught(InvalidText, read_script, BARE, " "), 0)


if __name__ == "__main__":
    unittest.main()
