"""[11] Plain runs, [12] trimmed states."""

import random
import unittest

from nomoreseen.errors import InvalidModule, InvalidPlay, InvalidSecrets, InvalidState, Refused
from nomoreseen.modules import Module
from nomoreseen.plain import answered, begin, fits_move, trail, trimmed
from nomoreseen.texts import read_module
from tests import naive
from tests.anything import MODULE, caught, values
from tests.makers import lawful_moves, random_book, random_doors, random_guest

NEVER = (("never",), None)
EMPTY = ((), (), (), (), ())

# One entry for each row that can be seen from outside.
ROWS = """module rows
class box 3
class jar 2
room 3
foreign far
foreign off
cell c num 3
secret s num 3
cell b thing box
cell q thing far
secret r num 2
out g num 3 thing box
out h thing far thing off
entry set x num 3 num 3
local l num 3
set l 2
back l
entry copy x num 3 num 3
local l num 3
copy l x
back l
entry add x num 3 num 3
add x 2
back x
entry if x num 3 num 3
if x 1 3
set x 0
back x
set x 2
go 2
entry make x num 3 thing box
make b box x
back b
entry pot x num 3 thing jar
local y thing jar
local f num 2
set f 1
make y jar f
back y
entry read x thing box num 3
local f num 3
read f x
back f
entry write x thing box num 3
local f num 3
set f 2
write x f
read f x
back f
entry same x thing far num 2
local l num 2
same x q 3
copy q x
back l
set l 1
back l
entry call x num 3 num 3
call b g x
add x 1
back x
entry pass x thing far thing off
local y thing off
call y h x
back y
entry show x num 3 num 3
set c 1
show
entry spin x num 3 num 3
local l num 3
set l 0
add l 1
if l 2 4
go 1
add l 1
go 5
entry last x num 3 thing box
back b"""

# What a call at a door brings, and what waits behind it, hangs on rows alone.
DEEP = """module deep
room 0
cell c num 4
out g num 4 num 4
entry e x num 4 num 4
local k num 4
copy k x
add c 1
call c g x
call x g k
add x 1
back x"""


class Begin(unittest.TestCase):
    def setUp(self):
        self.module = read_module(ROWS)

    def test_begin(self):
        self.assertEqual(begin(self.module, (2, 1)), ((0, 2, 0, 0, 1), (), (), (0, 0), ()))
        self.assertEqual(begin(module=self.module, secrets=[0, 1]), ((0, 0, 0, 0, 1), (), (), (0, 0), ()))
        self.assertEqual(begin(MODULE, ()), EMPTY)

    def test_wrong(self):
        for value in values():
            if value is not MODULE:
                self.assertEqual(caught(InvalidModule, begin, value, None), ("module",))
            if type(value) is not int or value not in (0, 1):
                self.assertEqual(caught(InvalidSecrets, begin, self.module, (1, value)), 1)
            self.assertEqual(caught(InvalidSecrets, begin, self.module, [3, value]), 0)
            if not isinstance(value, (list, tuple)) or len(value) != 2:
                self.assertEqual(caught(InvalidSecrets, begin, self.module, value), -1)
            if value not in [(), []]:
                self.assertEqual(caught(InvalidSecrets, begin, MODULE, value), -1)
        self.assertEqual(caught(InvalidSecrets, begin, self.module, (1, 2)), 1)
        self.assertEqual(caught(InvalidSecrets, begin, self.module, (1, 1, 1)), -1)


class Rows(unittest.TestCase):
    def setUp(self):
        self.module = read_module(ROWS)
        self.first = begin(self.module, (0, 0))

    def play(self, *moves):
        """The out-moves of a play, and the state behind it."""
        state, outs = self.first, []
        for move in moves:
            out, state = answered(self.module, state, move)
            outs.append(out)
        return outs, state

    def answer(self, name, value, state=None):
        return answered(self.module, state or self.first, ("call", name, value))

    def steps(self, name, value, state=None):
        entry = self.module.entry_at(name)
        told = trail(self.module, state or self.first, ("call", name, value))
        self.assertTrue(all(at == entry for at, _ in told))
        return [row for _, row in told]

    def test_numbers(self):
        for value in range(3):
            self.assertEqual(self.answer("set", value), (("back", 2), self.first))
            self.assertEqual(self.answer("copy", value), (("back", value), self.first))
            self.assertEqual(self.answer("add", value), (("back", (value + 2) % 3), self.first))
            self.assertEqual(self.answer("if", value)[0], ("back", 2 if value == 1 else 0))
        self.assertEqual(self.steps("if", 1), [0, 3, 4, 2])
        self.assertEqual(self.steps("if", 2), [0, 1, 2])
        self.assertEqual(answered(module=self.module, state=self.first, move=["call", "add", 2])[0], ("back", 1))
        self.assertEqual(trail(module=self.module, state=self.first, move=["call", "set", 2]), ((0, 0), (0, 1)))

    def test_things(self):
        outs, state = self.play(("call", "make", 2), ("call", "make", 1), ("call", "last", 0), ("call", "read", 1))
        self.assertEqual(outs, [("back", 1), ("back", 2), ("back", 2), ("back", 2)])
        self.assertEqual(state, ((0, 0, 2, 0, 0), ((0, 2), (0, 1)), (1, 2), (0, 0), ()))
        outs, state = self.play(("call", "make", 0), ("call", "pot", 0), ("call", "write", 1), ("call", "read", 1))
        self.assertEqual(outs, [("back", 1), ("back", 2), ("back", 2), ("back", 2)])
        self.assertEqual(state, ((0, 0, 1, 0, 0), ((0, 2), (1, 1)), (1, 2), (0, 0), ()))
        self.assertEqual(self.answer("last", 0), (("back", 0), self.first))

    def test_never(self):
        self.assertEqual(self.answer("read", 0), NEVER)
        self.assertEqual(self.answer("write", 0), NEVER)
        self.assertEqual(self.steps("read", 0), [0])
        self.assertEqual(self.steps("write", 0), [0, 1])
        made = [("call", "make", 0), ("call", "pot", 0), ("call", "make", 1)]
        outs, state = self.play(*made)
        self.assertEqual(self.answer("make", 0, state), NEVER)
        self.assertEqual(self.steps("make", 0, state), [0])
        self.assertEqual(self.steps("pot", 0, state), [0, 1])
        self.assertEqual(self.answer("spin", 0), NEVER)
        # Row 5 again with the same held: at its first coming l is 0, as ahead of no other row 5.
        self.assertEqual(self.steps("spin", 0), [0, 1, 2, 3, 1, 2, 4, 5])

    def test_show(self):
        self.assertEqual(self.answer("show", 0), (("show",), None))
        self.assertEqual(self.steps("show", 0), [0, 1])

    def test_foreign_things(self):
        outs, state = self.play(("call", "same", 0), ("call", "same", 1), ("call", "same", 1), ("call", "same", 2))
        self.assertEqual(outs, [("back", 1), ("back", 0), ("back", 1), ("back", 0)])
        self.assertEqual(state, ((0, 0, 0, 2, 0), (), (), (2, 0), ()))
        outs, state = self.play(("call", "pass", 1), ("back", 1), ("call", "pass", 0), ("back", 1), ("call", "pass", 2), ("back", 2))
        self.assertEqual(outs, [("call", "h", 1), ("back", 1), ("call", "h", 0), ("back", 1), ("call", "h", 2), ("back", 2)])
        self.assertEqual(state, ((0, 0, 0, 0, 0), (), (), (2, 2), ()))

    def test_calls(self):
        entry = self.module.entry_at("call")
        outs, state = self.play(("call", "make", 1), ("call", "call", 2))
        self.assertEqual(outs[1], ("call", "g", 2))
        self.assertEqual(state, ((0, 0, 1, 0, 0), ((0, 1),), (1,), (0, 0), ((entry, 0, (2,)),)))
        self.assertEqual(answered(self.module, state, ("back", 0)), (("back", 0), ((0, 0, 0, 0, 0), ((0, 1),), (1,), (0, 0), ())))
        self.assertEqual(trail(self.module, state, ("back", 1)), ((entry, 1), (entry, 2)))

    def test_handed_out_once_and_again(self):
        outs, state = self.play(
            ("call", "pot", 0), ("call", "make", 1), ("call", "last", 0), ("call", "call", 0), ("back", 2), ("call", "last", 0))
        self.assertEqual(outs, [("back", 1), ("back", 2), ("back", 2), ("call", "g", 0), ("back", 1), ("back", 2)])
        self.assertEqual(state[2], (1, 2))

    def test_calls_while_calls_wait(self):
        deep = read_module(DEEP)
        state = begin(deep, ())
        told = []
        for move in (("call", "e", 3), ("call", "e", 2), ("back", 1), ("back", 0), ("back", 2), ("back", 1)):
            out, state = answered(deep, state, move)
            told.append((out, state[0], state[4]))
        self.assertEqual(told, [
            (("call", "g", 3), (1,), ((0, 2, (3, 3)),)),
            (("call", "g", 2), (2,), ((0, 2, (3, 3)), (0, 2, (2, 2)))),
            (("call", "g", 2), (1,), ((0, 2, (3, 3)), (0, 3, (2, 2)))),
            (("back", 1), (1,), ((0, 2, (3, 3)),)),
            (("call", "g", 3), (2,), ((0, 3, (3, 3)),)),
            (("back", 2), (2,), ()),
        ])

    def test_rounds_that_end(self):
        # The same row comes with other numbers: that is no round.
        text = "module m\nroom 0\ncell c num 6\nentry e x num 6 num 6\nlocal k num 6\nif k 5 4\nadd k 1\nadd c 1\ngo 0\nadd x 1\n"
        made = read_module(text + "set k 0\nif x 0 8\ngo 0\nback c")
        out, state = answered(made, begin(made, ()), ("call", "e", 0))
        self.assertEqual((out, state[0]), (("back", 0), (0,)))
        self.assertEqual(len(trail(made, begin(made, ()), ("call", "e", 0))), 6 * (5 * 4 + 5))
        endless = read_module(text + "set k 0\ngo 0")
        self.assertEqual(answered(endless, begin(endless, ()), ("call", "e", 0)), NEVER)

    def test_rounds_by_fields_alone(self):
        text = "module m\nclass b 2\nroom 1\nentry e x num 2 num 2\nlocal t thing b\nlocal k num 2\nmake t b x\n"
        made = read_module(text + "read k t\nif k 1 6\nset k 1\nwrite t k\ngo 1\nback k")
        self.assertEqual(answered(made, EMPTY, ("call", "e", 0)), (("back", 1), ((), ((0, 1),), (), (), ())))
        made = read_module(text + "read k t\nadd k 1\nwrite t k\nset k 0\ngo 1")
        self.assertEqual(trail(made, EMPTY, ("call", "e", 0)), tuple((0, row) for row in [0] + [1, 2, 3, 4, 5] * 2))

    def test_against_a_run_by_names(self):
        rng = random.Random(11)
        kinds = set()
        for _ in range(400):
            book = random_book(rng)
            guest = random_guest(rng, book, random_doors(rng, book))
            state = begin(guest, rng.choice(guest.all_secrets()))
            for _ in range(8):
                moves = lawful_moves(book, guest, state)
                if not moves:
                    break
                move = rng.choice(moves)
                told = answered(guest, state, move)
                self.assertEqual(told, naive.answered(guest, state, move), (guest.told, state, move))
                self.assertEqual(answered(guest, [list(part) for part in state], list(move)), told)
                kinds.add((move[0], told[0][0]))
                if told[1] is None:
                    continue
                state = told[1]
        self.assertEqual(len(kinds), 6)


class Moves(unittest.TestCase):
    def setUp(self):
        self.module = read_module(ROWS)
        # Two boxes of which the second was handed out first, a jar handed out third, one box not at all;
        # one far came, and calls of g and h wait.
        entries = self.module.entry_at("call"), self.module.entry_at("pass")
        module = self.module.told
        self.module = Module(module[0], module[1], 4, *module[3:])
        self.things = ((0, 0), (0, 1), (1, 0), (0, 2))
        self.state = ((0, 0, 1, 1, 0), self.things, (2, 1, 3), (1, 0), ((entries[0], 0, (2,)), (entries[1], 0, (1, 0))))

    def fits(self, move, state=None):
        told = fits_move(self.module, state or self.state, move)
        self.assertIs(type(told), bool)
        self.assertIs(fits_move(module=self.module, state=[list(part) for part in state or self.state], move=list(move)), told)
        if not told:
            self.assertEqual(caught(Refused, answered, self.module, state or self.state, move), 0)
            self.assertEqual(caught(Refused, trail, self.module, state or self.state, move), 0)
        return told

    def test_numbers(self):
        self.assertEqual([self.fits(("call", "set", v)) for v in range(5)], [True, True, True, False, False])
        self.assertFalse(self.fits(("call", "set", 10 ** 9)))

    def test_own_things(self):
        self.assertEqual([self.fits(("call", "read", v)) for v in range(6)], [True, True, True, False, False, False])

    def test_foreign_things(self):
        self.assertEqual([self.fits(("call", "same", v)) for v in range(5)], [True, True, True, False, False])

    def test_backs(self):
        # The newest frame waits for an off, the one beneath it for a box.
        self.assertEqual([self.fits(("back", v)) for v in range(4)], [True, True, False, False])
        state = self.state[:4] + (self.state[4][:1],)
        self.assertEqual([self.fits(("back", v), state) for v in range(5)], [True, True, True, False, False])
        state = self.state[:4] + ((),)
        self.assertEqual([self.fits(("back", v), state) for v in range(2)], [False, False])

    def test_no_moves(self):
        known = [("back", 0)]
        for value in values() + [
            ("call", "no", 0), ("call", "g", 0), ("call", "set"), ("call", "set", -1), ("call", "set", True), ("call", "set", "0"),
            ("call", "set", 0, 0), ("back",), ("back", -1), ("back", False), ("back", 0, 0), ("Call", "set", 0), ("call", 3, 0),
            ("call", ["set"], 0), ("never",), ("show",), ("call", "c", 0), ("call", "box", 0), ("call", "rows", 0),
        ]:
            if value not in known:
                for call in (fits_move, answered, trail):
                    self.assertEqual(caught(InvalidPlay, call, self.module, self.state, value), 0)

    def with_part(self, part, value, **others):
        told = list(self.state)
        told[part] = value
        return told

    def test_wrong_states(self):
        frame = self.state[4][0]
        wrong = {
            1: [self.things + ((0, 0),), ((2, 0),) * 3, ((0, 3),) * 3, ((1, 2),) * 3, ((0, 0, 0),) * 3, ((True, 0),) * 3, ((0,),) * 3],
            2: [(2, 1, 2), (0, 1), (5,), (True, 2), (2, None), ((1,),), (-1, 1)],
            3: [(1,), (1, 0, 0), (1, -1), (True, 0), (1, None), (1, "0")],
            0: [
                (0, 0, 1, 1), (0, 0, 1, 1, 0, 0), (3, 0, 1, 1, 0), (0, 3, 1, 1, 0), (0, 0, 3, 1, 0), (0, 0, 5, 1, 0),
                (0, 0, 1, 2, 0), (0, 0, 1, 1, 2), (True, 0, 1, 1, 0), (0, 0, None, 1, 0), (0, 0, True, 1, 0), (0, 0, 1, -1, 0),
            ],
            4: [
                (frame, 0), (frame[:2],), (frame + (0,),), ((99, 0, (2,)),), ((frame[0], 1, (2,)),), ((frame[0], 9, (2,)),),
                ((frame[0], 0, (3,)),), ((frame[0], 0, ()),), ((frame[0], 0, (2, 2)),), ((frame[0], 0, 2),), ((-1, 0, (2,)),),
                ((frame[0], True, (2,)),), ((frame[0], 0, (None,)),), (frame, (self.state[4][1][0], 0, (2, 0))),
            ],
        }
        for part in wrong:
            told = [value for value in values() if not isinstance(value, (list, tuple))]
            for value in wrong[part] + told:
                self.assertEqual(self.state_error(self.with_part(part, value)), part, value)
        self.assertEqual(fits_move(self.module, self.state, ("back", 0)), True)

    def state_error(self, state):
        found = {caught(InvalidState, call, self.module, state, ("call", "set", 0)) for call in (fits_move, answered, trail)}
        found.add(caught(InvalidState, trimmed, self.module, state))
        self.assertEqual(len(found), 1)
        return found.pop()

    def test_order_of_parts(self):
        told = [None] * 5
        for part in (1, 2, 3, 0, 4):
            self.assertEqual(self.state_error(told), part)
            told[part] = self.state[part]
        for value in values():
            if not isinstance(value, (list, tuple)) or len(value) != 5:
                self.assertEqual(self.state_error(value), -1)
        self.assertEqual(self.state_error(self.state + ((),)), -1)

    def test_states_that_nobody_reaches(self):
        state = ((2, 2, 4, 5, 1), self.things, (4,), (5, 10 ** 9), ())
        self.assertTrue(fits_move(self.module, state, ("call", "same", 6)))
        self.assertEqual(answered(self.module, state, ("call", "last", 0)), (("back", 1), state))

    def test_order_of_errors(self):
        for call in (fits_move, answered, trail):
            for value in values():
                if value is not MODULE:
                    self.assertEqual(caught(InvalidModule, call, value, None, None), ("module",))
            self.assertEqual(caught(InvalidState, call, self.module, None, None), -1)
            self.assertEqual(caught(InvalidPlay, call, self.module, self.state, None), 0)
        for value in values():
            if value is not MODULE:
                self.assertEqual(caught(InvalidModule, trimmed, value, None), ("module",))

    def test_arguments_stay(self):
        state = [list(part) for part in self.state]
        before = repr(state)
        for move in (["call", "write", 1], ["call", "same", 2], ["back", 1]):
            first = answered(self.module, state, move)
            self.assertEqual(repr(state), before)
            self.assertEqual(repr(answered(self.module, self.state, tuple(move))), repr(first))
            self.assertTrue(all(type(part) is tuple for part in first[1]))
        trimmed(self.module, state)
        self.assertEqual(repr(state), before)


class Trimmed(unittest.TestCase):
    def test_by_hand(self):
        module = read_module(ROWS).told
        module = Module(module[0], module[1], 9, *module[3:])
        call, read = module.entry_at("call"), module.entry_at("pass")
        things = ((0, 1), (1, 1), (0, 2), (0, 0), (1, 0))
        state = ((0, 0, 1, 1, 0), things, (5, 3), (1, 0), ((call, 0, (2,)), (read, 0, (1, 0))))
        wanted = ((0, 0, 3, 1, 0), ((1, 0), (0, 2), (0, 1), (0, 0), (0, 0)), (1, 2), (1, 0), state[4])
        self.assertEqual(trimmed(module, state), wanted)
        self.assertEqual(trimmed(module=module, state=[list(part) for part in state]), wanted)
        self.assertEqual(trimmed(module, wanted), wanted)

    def test_frames_from_the_oldest_on(self):
        text = "module m\nclass a 2\nroom 5\ncell d thing a\ncell c thing a\nout g num 2 num 2\nentry e x thing a num 2\n" \
            "local k num 2\nlocal y thing a\ncall k g k\nback k"
        made = read_module(text)
        things = ((0, 0), (0, 1), (0, 0), (0, 1), (0, 1))
        state = ((0, 4), things, (5,), (), ((0, 0, (2, 1, 4)), (0, 0, (5, 1, 1))))
        wanted = ((0, 2), ((0, 1), (0, 1), (0, 1), (0, 0), (0, 0)), (1,), (), ((0, 0, (3, 1, 2)), (0, 0, (1, 1, 4))))
        self.assertEqual(trimmed(made, state), wanted)
        state = ((0, 0), things, (), (), ())
        self.assertEqual(trimmed(made, state), ((0, 0), ((0, 0),) * 5, (), (), ()))

    def test_answered_alike(self):
        rng = random.Random(12)
        for _ in range(200):
            book = random_book(rng)
            guest = random_guest(rng, book, random_doors(rng, book))
            state = begin(guest, rng.choice(guest.all_secrets()))
            for _ in range(6):
                told = trimmed(guest, state)
                self.assertEqual(trimmed(guest, told), told)
                self.assertEqual((len(told[1]), told[3], len(told[2])), (len(state[1]), state[3], len(state[2])))
                moves = lawful_moves(book, guest, state)
                self.assertEqual(moves, lawful_moves(book, guest, told))
                behinds = []
                for move in moves:
                    out, behind = answered(guest, state, move)
                    other_out, other_behind = answered(guest, told, move)
                    self.assertEqual(out, other_out)
                    if behind is None:
                        self.assertIsNone(other_behind)
                        continue
                    self.assertEqual(trimmed(guest, behind), trimmed(guest, other_behind))
                    behinds.append(behind)
                if not behinds:
                    break
                state = rng.choice(behinds)


if __name__ == "__main__":
    unittest.main()
