"""[13], [14], [15] Rooms, deeds, and what the machine does."""

import random
import unittest

from nomoreseen.compiler import compiled
from nomoreseen.errors import InvalidCode, InvalidRoom, InvalidScript, InvalidSecrets
from nomoreseen.machine import entered, first_room, ticked
from nomoreseen.modules import Book, Module
from nomoreseen.spots import spots
from nomoreseen.texts import read_module
from tests.anything import caught, values
from tests.makers import random_book, random_doors, random_guest
from tests.scripts import random_deed, random_guards
from tests.wideread import Wide

NEVER = (("never",),)


def module_of(*lines):
    return read_module("\n".join(("module m",) + lines))


def code_of(book, module, *bare):
    """The code with all guards but these spots'."""
    return compiled(book, module, [spot for spot in spots(book, module) if spot not in bare])


BOX = module_of(
    "class box 3", "class jar 3", "room 2", "foreign far", "cell b thing box", "cell j thing jar", "cell n num 3", "cell f thing far",
    "entry make x num 3 thing box", "make b box x", "back b", "entry jars x num 3 thing jar", "make j jar x", "back j",
    "entry read x thing box num 3", "read n x", "back n", "entry write x thing box num 3", "write x n", "back n",
    "entry keep x num 3 num 3", "copy n x", "back x", "entry fars x thing far thing far", "same x f 2", "copy f x", "back f",
)
WHOLE = Book(4, True, 2, True, False)
CALLS = module_of(
    "room 0", "secret s num 3", "cell n num 3", "out g num 3 num 3", "out h num 4 num 4", "entry e x num 3 num 3", "local t num 3",
    "local u num 4", "add x 1", "call t g x", "add t 1", "copy n t", "back n", "entry f y num 4 num 4", "call y h y", "back y",
)


class Rooms(unittest.TestCase):
    def test_first_room(self):
        code = code_of(WHOLE, CALLS)
        self.assertEqual(first_room(code, (2,)), ((2, 0), (), (), (), ()))
        self.assertEqual(first_room(code=code, secrets=[1]), ((1, 0), (), (), (), ()))
        for wrong, at in [((3,), 0), ((), -1), ((0, 0), -1), ((True,), 0), (0, -1), ("0", -1), (None, -1), ((-1,), 0), (([],), 0)]:
            self.assertEqual(caught(InvalidSecrets, first_room, code, wrong), at)
        for value in values() + [WHOLE, CALLS, code.told]:
            self.assertEqual(caught(InvalidCode, first_room, value, (9,)), ("code",))
            self.assertEqual(caught(InvalidCode, entered, value, None, None), ("code",))
            self.assertEqual(caught(InvalidCode, ticked, value, None, None), ("code",))

    def test_wrong_rooms(self):
        code = code_of(WHOLE, CALLS)
        right = ((2, 0), (), (), ((0, (1, 0, 0)), (1,), (0,)), ((3,), (0, 0, 0)))
        deed = ("back", 0, ())
        self.assertNotEqual(entered(code, right, deed)[0], NEVER)
        cases = [
            (-1, None), (-1, 3), (-1, "cells"), (-1, right[:4]), (-1, right + ((),)), (-1, {}), (0, (None,) + right[1:]),
            (0, ((0,),) + right[1:]), (0, ((0, 4),) + right[1:]), (0, ((0, True),) + right[1:]), (0, ((0, -1), 5, 5, 5, 5)),
            (1, (right[0], None, 5, 5, 5)), (1, (right[0], ((0, 0),), (), (), ())), (2, (right[0], (), ((1, 0),), 5, 5)),
            (2, (right[0], (), 1, 5, 5)), (3, right[:4] + ((),)), (3, right[:4] + (((3,),),)), (3, right[:4] + (((3,), (0, 0, 0), (1,)),)),
            (3, right[:4] + (((0, 0, 0), (3,)),)), (3, right[:3] + (((2,),), ((3,),))), (3, right[:3] + (((0, (1, 0)),), ())),
            (3, right[:3] + (((0, (1, 0, 4)),), ())), (3, right[:3] + (((0, (1, 0, 0), 0),), ())), (3, right[:3] + (((),), ())),
            (3, right[:3] + ((0,), ())), (3, right[:3] + (None, ())), (3, right[:3] + ((), None)), (3, right[:4] + (((4,), (0, 0, 0)),)),
            (3, right[:3] + (((True,),), ((0,),))),
        ]
        for at, room in cases:
            self.assertEqual(caught(InvalidRoom, entered, code, room, deed), at, room)
            self.assertEqual(caught(InvalidRoom, ticked, code, room, None), at, room)

    def test_wrong_rooms_with_things(self):
        code = code_of(WHOLE, BOX)
        cells = (0, 0, 0, 0)
        right = (cells, ((0, 3), (1, 0)), ((3, 1), (1, 0)), (), ())
        deed = ("call", "keep", 1, ())
        self.assertEqual(entered(code, right, deed)[0][0], ("back", 1))
        for at, room in [
            (1, (cells, ((0, 0), (0, 0), (0, 0)), (), (), ())), (1, (cells, ((2, 0),), (), (), ())), (1, (cells, ((0, 4),), (), (), ())),
            (1, (cells, ((0,),), (), (), ())), (1, (cells, (1,), (), (), ())), (1, (cells, ((0, True),), 7, (), ())),
            (2, (cells, (), ((0, 0),), (), ())), (2, (cells, (), ((4, 0),), (), ())), (2, (cells, (), ((1, 2),), (), ())),
            (2, (cells, (), ((1, 0), (1, 1)), (), ())), (2, (cells, (), ((1,),), (), ())), (2, (cells, (), ((True, 0),), 3, ())),
            (2, (cells, (), (1,), (), ())), (3, (cells, (), (), ((0,),), ((0,),))), (3, (cells, (), (), (), ((0,),))),
        ]:
            self.assertEqual(caught(InvalidRoom, entered, code, room, deed), at, room)

    def test_any_rooms_and_deeds(self):
        code = code_of(WHOLE, CALLS)
        room = first_room(code, (0,))
        for value in values():
            if value not in ((("call", "e", 0)),):
                self.assertEqual(caught(InvalidScript, entered, code, room, value), 0)
            try:
                entered(code, value, ("call", "e", 0, ()))
            except InvalidRoom:
                pass
            for at in range(5):
                try:
                    entered(code, room[:at] + (value,) + room[at + 1:], ("call", "e", 0, ()))
                except InvalidRoom as error:
                    self.assertEqual(error.at, (0, 1, 2, 3, 3)[at])


class Deeds(unittest.TestCase):
    def test_wrong_deeds(self):
        code = code_of(WHOLE, CALLS)
        room = first_room(code, (0,))
        for deed in [
            ("call", "e", 0), ("call", "e", 4, ()), ("call", "e", True, ()), ("call", "e", -1, ()), ("call", "g", 0, ()), ("back", 4, ()),
            ("call", 0, 0, ()), ("call", ["e"], 0, ()), ("back", 0), ("back", 0, (), ()), ("back", "e", 0, ()), ("call", "e", 1, 0, ()), ("call", 0, ()), (), None,
            ("back", 0, ((0, 0),)), ("back", 0, ((0, 0, 4),)), ("back", 0, ((-1, 0, 0),)), ("back", 0, ((0, True, 0),)), ("back", 0, 0),
            ("back", 0, "abc"), ("never",), ("stay", 0, ()), (["back"], 0, ()), ("back", 0, (0, 0, 0)), {"back": 0}, "back 0",
        ]:
            self.assertEqual(caught(InvalidScript, entered, code, room, deed), 0, deed)
            self.assertEqual(caught(InvalidScript, ticked, code, room, deed), 0, deed)
        far = ("call", "e", 1, ((10 ** 9, 10 ** 9, 3), (0, 7, 0)))
        listed = ["call", "e", 1, [[10 ** 9, 10 ** 9, 3], [0, 7, 0]]]
        self.assertEqual(entered(code, room, far), entered(code, [list(part) for part in room], listed))
        self.assertEqual(entered(code=code, room=room, deed=far), entered(code, room, far))

    def test_by_hand(self):
        book = Book(3, True, 0, False, False)
        module = module_of("room 0", "secret s num 2", "entry e x num 2 num 2", "local t num 2", "if s 0 2", "set t 1", "back x")
        code = compiled(book, module, ())
        self.assertEqual(ticked(code, first_room(code, (0,)), ("call", "e", 0, ())), ((("back", 0), 0, 0, 1, ()), 6, ((0,), (), (), (), ())))
        self.assertEqual(ticked(code, first_room(code, (1,)), ("call", "e", 0, ())), ((("back", 0), 1, 0, 0, ()), 8, ((1,), (), (), (), ())))
        self.assertEqual(entered(code, first_room(code, (1,)), ("call", "e", 2, ()))[0], (("back", 2), 1, 0, 0, ()))
        code = code_of(book, module)
        self.assertEqual(ticked(code, first_room(code, (0,)), ("call", "e", 2, ())), (NEVER, 1, None))
        self.assertEqual(entered(code, first_room(code, (0,)), ("call", "e", 1, ())), ((("back", 1), 0, 0, 0, ()), ((0,), (), (), (), ())))
        self.assertEqual(ticked(code, first_room(code, (0,)), ("back", 1, ())), (NEVER, 1, None))

    def test_frames_kept_and_laid_open(self):
        bare = ("frame", "g"), ("idle", ""), ("alone", "f"), ("wipe", "g"), ("below", "g")
        for code, row, laid in ((code_of(WHOLE, CALLS), (0, (2, 0, 0)), ()), (code_of(WHOLE, CALLS, *bare), (0,), ((2, 0, 0),))):
            first = first_room(code, (1,))
            sight, room = entered(code, first, ("call", "e", 1, ()))
            self.assertEqual(sight, (("call", "g", 2), 0 if not laid else 2, 0, 0, laid))
            self.assertEqual(room, ((1, 0), (), (), (row,), laid))
            self.assertEqual(entered(code, room, ("back", 0, ()))[0][0], ("back", 1))
        changed = ("back", 3, ((0, 0, 1), (0, 2, 3), (0, 0, 3), (0, 3, 1), (1, 0, 1)))
        sight, behind = entered(code, room, changed)
        self.assertEqual((sight, behind), ((("back", 1), 0, 0, 0, ()), ((1, 1), (), (), (), ())))
        sight, behind = entered(code, room, ("call", "f", 3, ((0, 1, 3), (0, 0, 0))))
        self.assertEqual(sight, (("call", "h", 3), 0, 0, 0, ((0, 3, 0),)))
        self.assertEqual(behind[3:], (((0,), (1, (3,))), ((0, 3, 0),)))
        self.assertEqual(entered(code, behind, ("call", "e", 1, ())), (NEVER, None))
        self.assertEqual(entered(code, first, ("back", 2, ()))[0][0], ("back", 0))

    def test_idle_bare(self):
        # Behind call 0 with a frame of 0, if nothing waits.
        code = code_of(WHOLE, CALLS, ("idle", ""))
        self.assertEqual(entered(code, ((1, 2), (), (), (), ()), ("back", 1, ())), ((("back", 2), 0, 0, 0, ()), ((1, 2), (), (), (), ())))
        self.assertEqual(ticked(code, first_room(code, (1,)), ("back", 3, ())), (NEVER, 2, None))
        code = code_of(WHOLE, CALLS)
        self.assertEqual(ticked(code, first_room(code, (1,)), ("back", 1, ())), (NEVER, 1, None))

    def test_handles(self):
        bare = code_of(WHOLE, BOX, ("number", ""), ("given", "read"), ("given", "write"), ("class", "read"))
        first = first_room(bare, ())
        sight, room = entered(bare, first, ("call", "jars", 2, ()))
        self.assertEqual((sight[0], room[2]), (("back", 1), ((1, 1),)))
        sight, room = entered(bare, room, ("call", "make", 1, ()))
        self.assertEqual((sight[0], room[1], room[2]), (("back", 2), ((1, 2), (0, 1)), ((1, 1), (2, 0))))
        reads = [entered(bare, room, ("call", "read", word, ()))[0][0] for word in range(4)]
        self.assertEqual(reads, [("never",), ("back", 2), ("back", 1), ("back", 0)])
        for word in (1, 2, 3):
            told = entered(bare, room, ("call", "write", word, ()))[1]
            if word == 1:
                self.assertIsNone(told)
            else:
                self.assertEqual(told[1], ((1, 2), (0, 0)) if word == 2 else ((1, 2), (0, 1)))
        self.assertEqual(entered(bare, room, ("call", "make", 1, ())), (NEVER, None))

    def test_handles_by_place(self):
        code = code_of(WHOLE, BOX, ("given", "read"), ("class", "read"))
        room = ((0, 0, 0, 0), ((1, 2), (0, 1)), ((2, 0),), (), ())
        # The order is 2, 1, 3: number 3 is no thing.
        reads = [entered(code, room, ("call", "read", word, ()))[0][0] for word in range(4)]
        self.assertEqual(reads, [("never",), ("back", 1), ("back", 2), ("back", 0)])
        by_number = code_of(WHOLE, BOX, ("number", ""))
        reads = [entered(by_number, room, ("call", "read", word, ()))[0][0] for word in range(4)]
        self.assertEqual(reads, [("never",), ("never",), ("back", 1), ("never",)])
        other = room[:2] + (((2, 1), (1, 0)),) + room[3:]
        reads = [entered(by_number, other, ("call", "read", word, ()))[0][0] for word in range(4)]
        self.assertEqual(reads, [("never",), ("back", 2), ("never",), ("never",)])
        guarded = code_of(WHOLE, BOX)
        reads = [entered(guarded, room, ("call", "read", word, ()))[0][0] for word in range(4)]
        self.assertEqual(reads, [("never",), ("back", 1), ("never",), ("never",)])
        both = room[:2] + (((2, 0), (1, 1)),) + room[3:]
        reads = [entered(guarded, both, ("call", "read", word, ()))[0][0] for word in range(4)]
        self.assertEqual(reads, [("never",), ("back", 1), ("never",), ("never",)])
        unlike = code_of(WHOLE, BOX, ("class", "read"))
        self.assertEqual(entered(unlike, both, ("call", "read", 2, ()))[0][0], ("back", 2))
        sight, behind = entered(guarded, room[:1] + (((1, 2),), ((1, 1),), (), ()), ("call", "make", 1, ()))
        self.assertEqual((sight[0], behind[2]), (("back", 2), ((1, 1), (2, 0))))

    def test_foreign_words_and_forged_numbers_go_out(self):
        code = code_of(WHOLE, BOX)
        room = first_room(code, ())
        sight, room = entered(code, room, ("call", "fars", 3, ()))
        self.assertEqual((sight[0], room[0]), (("back", 3), (0, 0, 0, 3)))
        # A number of no thing, held by a cell, goes out, and is put on the list.
        forged = ((3, 0, 0, 0), ((0, 0), (0, 0)), (), (), ())
        module = module_of("class box 3", "room 2", "cell b thing box", "entry e x num 3 thing box", "back b")
        sight, behind = entered(compiled(WHOLE, module, ()), ((3,), (), (), (), ()), ("call", "e", 0, ()))
        self.assertEqual((sight[0], behind[2]), (("back", 3), ((3, 0),)))
        sight, behind = entered(code_of(WHOLE, module), ((3,), (), (), (), ()), ("call", "e", 0, ()))
        self.assertEqual((sight[0], behind[2]), (("back", 1), ((3, 0),)))
        self.assertEqual(entered(code, forged, ("call", "keep", 0, ()))[1], ((3, 0, 0, 0),) + forged[1:])

    def test_ticks_of_rounds(self):
        book = Book(3, False, 0, False, False)
        module = module_of("room 0", "cell n num 3", "entry e x num 3 num 3", "go 0", "entry f x num 3 num 3", "add n 1", "go 0",
                           "entry g x num 3 num 3", "set x 1", "if x 1 0", "back x")
        code = code_of(book, module)
        room = first_room(code, ())
        self.assertEqual(ticked(code, room, ("call", "e", 0, ())), (NEVER, 2, None))
        self.assertEqual(ticked(code, room, ("call", "f", 0, ())), (NEVER, 1 + 3 * 4, None))
        self.assertEqual(ticked(code, room, ("call", "g", 1, ())), (NEVER, 1 + 5, None))
        self.assertEqual(ticked(code, room, ("call", "g", 0, ())), (NEVER, 1 + 2 + 3 + 2, None))

    def test_wide_words(self):
        book = Book(4, True, 0, False, False)
        module = module_of("room 0", "entry e x num 2 num 2", "add x 1", "if x 0 3", "add x 1", "back x")
        bare = compiled(book, module, ())
        outs = [entered(bare, first_room(bare, ()), ("call", "e", word, ()))[0] for word in range(4)]
        self.assertEqual(outs, [(("back", 0), 0, 0, 0, ()), (("back", 0), 0, 0, 1, ()), (("back", 0), 0, 0, 0, ()), (("back", 0), 0, 0, 1, ())])


class Runs(unittest.TestCase):
    def test_against_rows_that_work_on_words(self):
        rng = random.Random(13)
        nevers = waits = 0
        for _ in range(700):
            book = random_book(rng, (3, 4, 5, 6))
            module = random_guest(rng, book, random_doors(rng, book), rows=8)
            guards = random_guards(rng, book, module)
            code = compiled(book, module, guards)
            secrets = rng.choice(module.all_secrets())
            wide = Wide(book, module, guards, secrets)
            room = first_room(code, secrets)
            self.assertEqual(room, wide.room())
            for _ in range(8):
                deed = random_deed(rng, code, room)
                sight, ticks, behind = ticked(code, room, deed)
                self.assertEqual(wide.deed(deed), (sight, ticks))
                self.assertEqual(entered(code, room, deed), (sight, behind))
                waits += len(room[3])
                if behind is None:
                    self.assertEqual(sight, NEVER)
                    nevers += 1
                    break
                self.assertEqual(behind, wide.room())
                room = behind
        self.assertGreater(nevers, 100)
        self.assertGreater(waits, 300)


if __name__ == "__main__":
    unittest.main()
