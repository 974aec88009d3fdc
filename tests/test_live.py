"""[51] to [54] A guest amid strangers, and another one in its place."""

import random
import unittest

from nomoreseen.compiler import compiled
from nomoreseen.errors import InvalidBook, InvalidIndex, InvalidModule, InvalidScript, InvalidSecrets, InvalidSize, InvalidState, Refused
from nomoreseen.live import Live, room_of
from nomoreseen.machine import entered, first_room
from nomoreseen.modules import Book, Module
from nomoreseen.plain import answered, begin
from nomoreseen.spots import spots
from tests import makers
from tests.anything import caught, values
from tests.scripts import random_deed
from tests.test_machine import module_of
from tests.test_plays import CALLER, INSIDE, KEEPER, OUTS, THINGS

NEVER = (("never",),)


def lawful_move(book, module, state, known, deed):
    """The in-move that a deed is, read off the words of [30]; None if it is none."""
    word = deed[-2]
    waits = state[4]
    if deed[0] == "call":
        if waits and not book.inside:
            return None
        kind = module.entries[module.entry_at(deed[1])][2]
    else:
        if not waits:
            return None
        entry, row, _ = waits[-1]
        kind = module.outs[module.steps[entry][row][2]][2]
    if kind[0] == "num":
        value = word if word < kind[1] else None
    elif kind[1] in module.foreign:
        came = known[kind[1]]
        if word and word not in came:
            came.append(word)
        value = came.index(word) + 1 if word else 0
    else:
        here = [at + 1 for at, thing in enumerate(state[2]) if module.classes[state[1][thing - 1][0]][0] == kind[1]]
        value = word if word in [0] + here else None
    return None if value is None else deed[:-2] + (value,)


class Mirror:
    """What a Live must tell, kept by other means."""

    def __init__(self, book, module, secrets):
        self.book, self.module = book, module
        self.code = compiled(book, module, spots(book, module))
        self.room, self.state = first_room(self.code, secrets), begin(module, secrets)
        self.known = {name: [] for name in module.foreign}
        self.play, self.deeds = [], []

    def deed(self, deed):
        self.deeds.append(deed)
        sight, self.room = entered(self.code, self.room, deed)
        move = lawful_move(self.book, self.module, self.state, self.known, deed)
        if move is None:
            self.state = None
            assert sight == NEVER
        else:
            out, self.state = answered(self.module, self.state, move)
            self.play += [move, out]
        return sight

    def check(self, test, live):
        test.assertEqual((live.deeds(), live.play()), (tuple(self.deeds), tuple(self.play)))
        test.assertEqual((live.state(), live.room_behind()), (self.state, self.room))
        if self.state is not None:
            known = [self.known[name] for name in self.module.foreign]
            test.assertEqual(room_of(self.module, self.state, known), self.room)


def state_after(module, secrets, moves):
    """(answers, state) of a row of in-moves, up to a never."""
    state, outs = begin(module, secrets), []
    for move in moves:
        out, state = answered(module, state, move)
        outs.append(out)
    return outs, state


class Deeds(unittest.TestCase):
    def test_by_hand(self):
        live = Live(OUTS, CALLER, (1,))
        self.assertEqual((live.deeds(), live.play(), live.state(), live.room_behind()),
                         ((), (), begin(CALLER, (1,)), ((1, 0), (), (), (), ())))
        self.assertEqual(live.deed(("call", "e", 1, ((0, 0, 0),))), (("call", "g", 1), 0, 0, 0, ()))
        self.assertEqual(live.play(), (("call", "e", 1), ("call", "g", 1)))
        self.assertEqual(live.room_behind(), ((1, 0), (), (), ((0, (1, 0)),), ()))
        self.assertEqual(live.deed(["back", 2, []]), (("back", 2), 0, 0, 0, ()))
        self.assertEqual(live.deeds(), (("call", "e", 1, ((0, 0, 0),)), ("back", 2, ())))
        self.assertEqual(live.deed(("call", "e", 2, ())), NEVER)
        self.assertEqual((live.state(), live.room_behind(), len(live.play()), len(live.deeds())), (None, None, 4, 3))
        self.assertEqual(caught(Refused, live.deed, ("call", "e", 0, ())), 0)
        self.assertEqual(caught(InvalidScript, live.deed, ("call", "e", 9, ())), 0)
        self.assertIsNone(live.back_to(1))
        self.assertEqual((live.play(), live.deeds()), ((("call", "e", 1), ("call", "g", 1)), (("call", "e", 1, ((0, 0, 0),)),)))
        self.assertEqual(live.deed(("call", "f", 0, ())), NEVER)
        live.back_to(0)
        self.assertEqual((live.deeds(), live.room_behind()), ((), ((1, 0), (), (), (), ())))

    def test_a_lawful_move_answered_never(self):
        module = module_of("room 0", "entry e x num 3 num 3", "if x 0 2", "go 1", "back x")
        live = Live(Book(3, True, 0, False, False), module, ())
        self.assertEqual([live.deed(("call", "e", word, ())) for word in (0, 1)], [(("back", 0), 0, 0, 0, ()), NEVER])
        self.assertEqual(live.play(), (("call", "e", 0), ("back", 0), ("call", "e", 1), ("never",)))
        self.assertEqual((live.state(), live.room_behind()), (None, None))

    def test_wrong_deeds_change_nothing(self):
        live = Live(OUTS, CALLER, (0,))
        live.deed(("call", "e", 0, ()))
        before = (live.deeds(), live.play(), live.state(), live.room_behind())
        for value in values() + [("back", 3, ()), ("back", 0), ("call", "g", 0, ()), ("back", 0, ((0, 0, 3),)), ("call", "e", 0, None)]:
            self.assertEqual(caught(InvalidScript, live.deed, value), 0)
            if not isinstance(value, int) or isinstance(value, bool) or not 0 <= value <= 1:
                self.assertEqual(caught(InvalidIndex, live.back_to, value), "many")
            self.assertEqual((live.deeds(), live.play(), live.state(), live.room_behind()), before)
        live.back_to(many=1)
        self.assertEqual((live.deeds(), live.play(), live.state(), live.room_behind()), before)

    def test_what_is_no_guest(self):
        for value in values():
            if not isinstance(value, Book):
                self.assertEqual(caught(InvalidBook, Live, value, None, None), "book")
            if not isinstance(value, Module):
                self.assertEqual(caught(InvalidModule, Live, OUTS, value, None), ("module",))
            if value not in ((0,), [0]):
                caught(InvalidSecrets, Live, OUTS, CALLER, value)
        self.assertEqual(caught(InvalidModule, Live, Book(3, True, 0, False, False), CALLER, None), ("outs", 0))
        self.assertEqual(Live(book=OUTS, module=CALLER, secrets=[1]).state(), begin(CALLER, (1,)))

    def test_foreign_things(self):
        live = Live(THINGS, KEEPER, ())
        self.assertEqual(live.deed(("call", "keep", 3, ())), (("call", "h", 3), 0, 0, 0, ()))
        self.assertEqual(live.play(), (("call", "keep", 1), ("call", "h", 1)))
        self.assertEqual(live.deed(("call", "keep", 2, ())), (("call", "h", 2), 0, 0, 0, ()))
        self.assertEqual(live.deed(("back", 3, ())), (("back", 0), 0, 0, 0, ()))
        self.assertEqual(live.play()[4:], (("back", 1), ("back", 0)))
        self.assertEqual((live.state()[0], live.room_behind()[0]), ((1,), (3,)))
        self.assertEqual(live.state()[3], (2,))
        live.back_to(1)
        self.assertEqual(live.deed(("back", 1, ())), (("back", 0), 0, 0, 0, ()))
        self.assertEqual(live.play()[2:], (("back", 2), ("back", 0)))

    def test_random_scripts(self):
        rng = random.Random(51)
        found = {"nevers": 0, "lawful": 0, "undone": 0, "back": 0}
        for _ in range(300):
            book = makers.random_book(rng, (3, 4, 5))
            module = makers.random_guest(rng, book, makers.random_doors(rng, book), rows=7)
            secrets = rng.choice(module.all_secrets())
            live, mirror = Live(book, module, secrets), Mirror(book, module, secrets)
            for _ in range(8):
                deed = random_deed(rng, mirror.code, mirror.room)
                self.assertEqual(live.deed(deed), mirror.deed(deed))
                mirror.check(self, live)
                found["lawful"] += mirror.state is not None
                found["back"] += deed[0] == "back" and mirror.state is not None
                if mirror.room is None:
                    found["nevers"] += 1
                    many = rng.randrange(len(mirror.deeds) + 1)
                    found["undone"] += many > 0
                    done, mirror = mirror.deeds[:many], Mirror(book, module, secrets)
                    live.back_to(many)
                    for told in done:
                        mirror.deed(told)
                    mirror.check(self, live)
                    if mirror.room is None:
                        break
        self.assertGreater(min(found.values()), 40, found)


ALIKE = module_of("room 0", "secret s num 3", "cell n num 3", "cell o num 2", "out g num 2 num 3", "entry e y num 2 num 3", "local t num 3",
                  "local u num 3", "add u 1", "call t g y", "copy n t", "back n", "entry f z num 3 num 3", "back n")
UNLIKE = module_of("room 0", "cell n num 3", "out g num 2 num 3", "entry e x num 2 num 3", "local t num 3", "call t g x", "copy n t",
                   "if t 2 4", "back n", "set n 0", "back n", "entry f y num 3 num 3", "back n")
AT_ONCE = module_of("room 0", "out g num 2 num 3", "entry e x num 2 num 3", "local t num 3", "back t", "entry f y num 3 num 3", "back y")


class Exchange(unittest.TestCase):
    def told(self, live):
        return live.deeds(), live.play(), live.state(), live.room_behind()

    def test_at_the_beginning(self):
        live = Live(OUTS, CALLER, (0,))
        self.assertIsNone(live.parting_moves(ALIKE, (2,)))
        self.assertIsNone(live.parting_moves(module=CALLER, secrets=[1]))
        before = self.told(live)
        moves = live.parting_moves(UNLIKE, ())
        self.assertEqual(moves, (("call", "e", 0), ("back", 2)))
        self.assertEqual(caught(Refused, live.exchange, UNLIKE, ()), 0)
        self.assertEqual(len(live.parting_moves(AT_ONCE, ())), 1)
        self.assertEqual(self.told(live), before)
        self.assertIsNone(live.exchange(module=ALIKE, secrets=[2]))
        self.assertEqual((live.state(), live.room_behind()), (begin(ALIKE, (2,)), ((2, 0, 0), (), (), (), ())))

    def test_amid_a_call(self):
        live = Live(OUTS, CALLER, (0,))
        live.deed(("call", "e", 1, ()))
        self.assertEqual(live.parting_moves(UNLIKE, ()), (("back", 2),))
        self.assertEqual(caught(Refused, live.exchange, UNLIKE, ()), 1)
        self.assertEqual(caught(Refused, live.parting_moves, AT_ONCE, ()), 0)
        self.assertEqual(caught(Refused, live.exchange, AT_ONCE, ()), 0)
        live.exchange(ALIKE, (1,))
        self.assertEqual(live.state(), ((1, 0, 0), (), (), (), ((0, 1, (1, 0, 1)),)))
        self.assertEqual(live.room_behind(), ((1, 0, 0), (), (), ((0, (1, 0, 1)),), ()))
        self.assertEqual(live.play(), (("call", "e", 1), ("call", "g", 1)))
        self.assertEqual(live.deed(("back", 2, ())), (("back", 2), 0, 0, 0, ()))
        self.assertEqual(live.state()[0], (1, 2, 0))
        live.back_to(1)
        self.assertEqual(live.state()[4], ((0, 1, (1, 0, 1)),))

    def test_many_calls_wait(self):
        # How deep the two part is seen by the backs alone.
        lines = ("out g num 3 num 3", "entry e x num 3 num 3", "local k num 3", "local l num 3")
        one = module_of("room 0", "cell n num 3", *lines, "add n 1", "if n 0 5", "copy k n", "call l g x", "back x", "back n")
        other = module_of("room 0", "cell n num 3", *lines, "add n 1", "if n 0 5", "copy k n", "call l g x", "if k 1 6", "back n", "set x 2", "back x")
        same = module_of("room 0", "cell n num 3", *lines, "add n 1", "if n 0 5", "copy k n", "call l g x", "go 6", "back n", "back x")
        live = Live(INSIDE, one, ())
        for _ in range(2):
            self.assertEqual(live.deed(("call", "e", 0, ()))[0], ("call", "g", 0))
        moves = live.parting_moves(other, ())
        outs, later = state_after(one, (), live.play()[::2] + moves)[0], state_after(other, (), live.play()[::2] + moves)[0]
        self.assertEqual((outs[:-1], outs[-1] == later[-1]), (later[:-1], False))
        self.assertIsNone(live.parting_moves(same, ()))
        live.exchange(same, ())
        self.assertEqual([live.deed(("back", 1, ()))[0] for _ in range(2)], [("back", 0)] * 2)
        live.exchange(one, ())
        self.assertEqual(live.state(), ((2,), (), (), (), ()))

    def test_refused(self):
        live = Live(OUTS, CALLER, (0,))
        live.deed(("call", "f", 0, ()))
        live.deed(("call", "f", 1, ()))
        late = module_of("room 0", "cell n num 3", "out g num 2 num 3", "entry e x num 2 num 3", "local t num 3", "call t g x", "copy n t", "back n",
                         "entry f y num 3 num 3", "if n 1 3", "add n 1", "go 4", "set n 0", "set y 0", "if n 0 5", "back y")
        self.assertEqual(state_after(late, (), live.play()[::2])[0], [("back", 0), ("never",)])
        for call in (live.parting_moves, live.exchange):
            self.assertEqual(caught(Refused, call, late, ()), 1)
            self.assertEqual(caught(Refused, call, AT_ONCE, ()), 1)
        live.deed(("back", 0, ()))
        for call in (live.parting_moves, live.exchange):
            self.assertEqual(caught(Refused, call, ALIKE, (0,)), -1)
            self.assertEqual(caught(InvalidSecrets, call, ALIKE, (3,)), 0)
        self.assertEqual(len(live.deeds()), 3)

    def test_errors_in_order(self):
        live = Live(OUTS, CALLER, (0,))
        live.deed(("call", "e", 0, ()))
        before = self.told(live)
        doors = module_of("room 0", "out g num 2 num 3", "entry e x num 2 num 3", "local t num 3", "back t")
        for call in (live.parting_moves, live.exchange):
            for value in values():
                if not isinstance(value, Module):
                    self.assertEqual(caught(InvalidModule, call, value, None), ("module",))
                if value not in ((0,), [0]):
                    caught(InvalidSecrets, call, CALLER, value)
            self.assertEqual(caught(InvalidModule, call, KEEPER, None), ("classes", 0))
            self.assertEqual(caught(InvalidModule, call, doors, None), ("entries", -1))
            self.assertEqual(caught(InvalidSecrets, call, CALLER, None), -1)
            self.assertEqual(caught(InvalidSecrets, call, CALLER, (2,)), 0)
            self.assertEqual(self.told(live), before)
        named = module_of("class box 3", *[line for line in ("room 0", "entry e x num 3 num 3", "back x")])
        plain = module_of("room 0", "entry e x num 3 num 3", "back x")
        live = Live(Book(3, True, 2, True, True), plain, ())
        for call in (live.parting_moves, live.exchange):
            self.assertEqual(caught(InvalidModule, call, named, ()), ("classes", -1))

    def test_too_many_opens(self):
        lines = ["room 0"] + ["cell c%s num 5" % name for name in "abcdef"] + ["entry e x num 5 num 5"]
        rows = []
        for at, name in enumerate("abcdef"):
            rows += ["add c%s 1" % name, "if c%s 0 %d" % (name, 3 * at + 3), "back x"]
        module = module_of(*lines, *rows, "back x")
        live = Live(Book(5, False, 0, False, False), module, ())
        live.deed(("call", "e", 0, ()))
        self.assertEqual(caught(InvalidSize, live.parting_moves, module, ()), "opens")
        self.assertEqual(caught(InvalidSize, live.exchange, module, ()), "opens")

    def test_random_exchanges(self):
        rng = random.Random(52)
        found = {"exchanged": 0, "parted": 0, "otherwise": 0, "deep": 0}
        for _ in range(700):
            book = makers.random_book(rng)
            doors = makers.random_doors(rng, book)
            one = makers.random_guest(rng, book, doors, rows=5)
            other = makers.random_guest(rng, book, doors, rows=5) if rng.random() < 0.5 else one
            secrets, others = rng.choice(one.all_secrets()), rng.choice(other.all_secrets())
            live, mirror = Live(book, one, secrets), Mirror(book, one, secrets)
            for _ in range(rng.randrange(5)):
                deed = random_deed(rng, mirror.code, mirror.room)
                mirror.deed(deed)
                if mirror.room is None:
                    break
                live.deed(deed)
            self.exchange(rng, book, (one, other), (secrets, others), live, found)
        self.assertGreater(min(found.values()), 8, found)

    def exchange(self, rng, book, modules, secrets, live, found):
        moves, outs = live.play()[::2], live.play()[1::2]
        before = self.told(live)
        told = []
        state = begin(modules[1], secrets[1])
        for at, move in enumerate(moves):
            out, state = answered(modules[1], state, move)
            told.append(out)
            if out != outs[at]:
                self.assertEqual(caught(Refused, live.parting_moves, modules[1], secrets[1]), at)
                self.assertEqual(caught(Refused, live.exchange, modules[1], secrets[1]), at)
                found["otherwise"] += 1
                return
        try:
            parting = live.parting_moves(modules[1], secrets[1])
        except InvalidSize:
            return
        self.assertEqual(self.told(live), before)
        if parting is not None:
            self.assertEqual(caught(Refused, live.exchange, modules[1], secrets[1]), len(moves))
            now, later = live.state(), state
            for at, move in enumerate(parting):
                self.assertIn(move, makers.lawful_moves(book, modules[0], now))
                (out, now), (other_out, later) = answered(modules[0], now, move), answered(modules[1], later, move)
                self.assertEqual(out != other_out, at == len(parting) - 1)
            found["parted"] += 1
            found["deep"] += len(before[2][4]) > 0
            return
        live.exchange(modules[1], secrets[1])
        found["exchanged"] += 1
        self.assertEqual((live.deeds(), live.play(), live.state()), (before[0], before[1], state))
        # From here on strangers see what they would have seen without it.
        old, new = Mirror(book, modules[0], secrets[0]), Mirror(book, modules[1], secrets[1])
        for deed in before[0]:
            self.assertEqual(old.deed(deed), new.deed(deed))
        new.check(self, live)
        for _ in range(5):
            if new.room is None:
                break
            deed = random_deed(rng, new.code, new.room)
            self.assertEqual(live.deed(deed), old.deed(deed))
            new.deed(deed)
            self.assertEqual(old.play, new.play)
            new.check(self, live)


class Rooms(unittest.TestCase):
    def test_by_hand(self):
        state = ((2,), ((0, 1), (1, 2)), (2, 1), (2,), ((2, 0, (1, 0)), (3, 1, (1, 3))))
        room = room_of(KEEPER, state, ((3, 7),))
        self.assertEqual(room, ((7,), ((0, 1), (1, 2)), ((2, 1), (1, 0)), ((0, (1, 0)), (1, (3, 3))), ()))
        self.assertEqual(room_of(module=KEEPER, state=[list(part) for part in state], known=[[3, 7]]), room)
        self.assertEqual(room_of(CALLER, begin(CALLER, (1,)), ()), ((1, 0), (), (), (), ()))

    def test_errors(self):
        state = begin(KEEPER, ())[:3] + ((2,), ())
        for known, at in [((), -1), (None, -1), (((1, 2), (1,)), -1), (((1,),), 0), (((1, 1),), 0), (((0, 1),), 0), (((True, 2),), 0), ((5,), 0),
                          (((1, 2, 3),), 0), ((None,), 0), (("ab",), 0), (7, -1), ("a", -1), (((1, -1),), 0)]:
            self.assertEqual(caught(InvalidIndex, room_of, KEEPER, state, known), at, known)
        two = module_of("room 0", "foreign far", "foreign wide", "entry e x num 3 num 3", "back x")
        here = ((), (), (), (1, 1), ())
        self.assertEqual(caught(InvalidIndex, room_of, two, here, ((5,), (2, 3))), 1)
        self.assertEqual(caught(InvalidIndex, room_of, two, here, ((), (2, 3))), 0)
        self.assertEqual(room_of(two, here, ((5,), (5,))), ((), (), (), (), ()))
        for value in values():
            if not isinstance(value, Module):
                self.assertEqual(caught(InvalidModule, room_of, value, None, None), ("module",))
            caught(InvalidState, room_of, KEEPER, value, None)
            caught(InvalidIndex, room_of, KEEPER, state, value)
            caught(InvalidIndex, room_of, KEEPER, state, (value,)) if value not in ((1, 2), [1, 2]) else None
        self.assertEqual(caught(InvalidState, room_of, KEEPER, state[:4] + (5,), None), 4)


if __name__ == "__main__":
    unittest.main()
