"""[20], [24] The wide reading, honest scripts, and the own pile with room for so many words."""

import random
import unittest

from nomoreseen.calm import pile_steps
from nomoreseen.compiler import compiled
from nomoreseen.errors import InvalidBook, InvalidFrames, InvalidModule, InvalidPlay, InvalidScript, InvalidSecrets, InvalidSize, InvalidSpots, Refused
from nomoreseen.frames import piled_sights
from nomoreseen.modules import Book, Module
from nomoreseen.plain import answered, begin, trail
from nomoreseen.plays import answers
from nomoreseen.seen import kept_names
from nomoreseen.sights import sights
from nomoreseen.spots import spots
from nomoreseen.webs import is_parted
from nomoreseen.wide import honest_script, wide_rows, wide_sights
from tests import makers
from tests.anything import caught, no_numbers, values
from tests.scripts import random_guards, random_script
from tests.test_machine import module_of
from tests.wideread import Wide

BOOK = Book(4, True, 2, True, False)
INSIDE = Book(4, True, 2, True, True)
NEVER = (("never",),)
GUEST = module_of(
    "class box 2", "room 2", "secret s num 2", "cell b thing box", "out g num 2 num 2", "entry e x num 2 thing box", "local t num 2",
    "if x 0 3", "make b box x", "back b", "call t g x", "if t 0 5", "go 6", "go 5", "read t b", "back b",
    "entry f c thing box num 2", "local t num 2", "read t c", "back t", "entry k x num 2 num 2", "back s")


def mirror_piled(book, module, guards, kept, room, secrets, script):
    """The sights with room for so many words, by a second reading whose pile is looked at between deeds."""
    told = Wide(book, module, guards, secrets)
    seen = []
    for deed in script:
        waited = len(told.own)
        sight, _ = told.deed(deed)
        if sight != NEVER and sight[0][0] == "call":
            call, frame = told.own[-1]
            if sum(1 + len(kept[at] or ()) for at, _ in told.own) > room:
                sight = NEVER
            elif frame is not None:
                many = len(module.cells)
                told.own[-1] = call, [word if at + many in kept[call] else 0 for at, word in enumerate(frame)]
        assert sight == NEVER or abs(len(told.own) - waited) <= 1
        seen.append(sight)
    return tuple(seen)


class Sights(unittest.TestCase):
    def test_against_the_code(self):
        rng = random.Random(20)
        ends = {"never": 0, "laid": 0, "wide": 0, "things": 0}
        for _ in range(1500):
            book = makers.random_book(rng, (3, 4, 5))
            guest = makers.random_guest(rng, book, makers.random_doors(rng, book))
            guards = random_guards(rng, book, guest)
            code, secrets = compiled(book, guest, guards), rng.choice(guest.all_secrets())
            script = random_script(rng, code, secrets, 8)
            seen = sights(code, secrets, script)
            told = (book, guest, rng.sample(guards, len(guards)), secrets, script)
            self.assertEqual(wide_sights(*told), seen)
            self.assertEqual(len(wide_rows(*told)), len(script))
            ends["never"] += seen[-1] == NEVER
            ends["laid"] += any(sight != NEVER and len(sight[4]) > 1 for sight in seen)
            ends["wide"] += any(deed[-2] > 1 for deed in script)
            ends["things"] += any(sight != NEVER and sight[2] for sight in seen)
        self.assertGreater(min(ends.values()), 30, ends)

    def test_by_hand(self):
        self.assertEqual(wide_sights(BOOK, GUEST, (), (1,), (("call", "k", 3, ()), ("call", "e", 1, ()), ("call", "f", 1, ()), ("call", "f", 2, ()))), (
            (("back", 1), 0, 0, 0, ()), (("back", 1), 1, 1, 0, ()), (("back", 1), 1, 1, 0, ()), (("back", 0), 0, 2, 0, ())))
        self.assertEqual(wide_sights(book=BOOK, module=GUEST, guards=[], secrets=[0], script=[["call", "e", 0, []]]), (
            (("call", "g", 0), 0, 0, 1, ((0, 0),)),))
        # The word of the book is not the kind's: 3 + 0 stays 3 until it is added to.
        module = module_of("room 0", "entry e x num 2 num 2", "back x", "entry f x num 2 num 2", "add x 1", "back x")
        self.assertEqual([sight[0] for sight in wide_sights(BOOK, module, (), (), (("call", "e", 3, ()), ("call", "f", 3, ())))], [("back", 3), ("back", 0)])

    def test_fields_that_are_written(self):
        module = module_of("class box 4", "room 2", "cell b thing box", "entry e x num 4 num 4", "local k num 4", "make b box k", "write b x", "read k b",
                           "back k", "entry f c thing box num 4", "local k num 4", "read k c", "back k")
        script = (("call", "e", 3, ()), ("call", "e", 2, ()), ("call", "f", 1, ()), ("call", "f", 2, ()), ("call", "f", 3, ()))
        self.assertEqual(wide_sights(BOOK, module, (), (), script), (
            (("back", 3), 3, 1, 0, ()), (("back", 2), 2, 2, 0, ()), (("back", 3), 3, 1, 0, ()), (("back", 2), 2, 2, 0, ()), (("back", 0), 0, 3, 0, ())))
        # A write to a number of no thing does nothing.
        module = module_of("class box 4", "room 2", "entry e c thing box num 4", "local k num 4", "set k 2", "write c k", "read k c", "back k")
        self.assertEqual(wide_sights(BOOK, module, (), (), (("call", "e", 3, ()),)), ((("back", 0), 0, 3, 0, ()),))

    def test_changed_frames(self):
        script = (("call", "e", 0, ()), ("back", 1, ((0, 0, 3), (0, 1, 3), (4, 0, 0), (0, 7, 0))))
        self.assertEqual(wide_sights(BOOK, GUEST, (), (0,), script)[1], NEVER)
        module = module_of("room 0", "out g num 4 num 4", "entry e x num 4 num 4", "local t num 4", "call t g x", "back x")
        self.assertEqual(wide_sights(BOOK, module, (), (), (("call", "e", 2, ()), ("back", 0, ((0, 0, 1), (0, 0, 3)))))[1], (("back", 3), 0, 0, 0, ()))
        self.assertEqual(wide_sights(BOOK, module, (("frame", "g"),), (), (("call", "e", 2, ()), ("back", 0, ((0, 0, 1),))))[1][0], ("back", 2))


class Rows(unittest.TestCase):
    def rows(self, *script, guards=(), secrets=(0,)):
        return wide_rows(BOOK, GUEST, guards, secrets, script)

    def test_each_way(self):
        out, back = ("call", "e", 0, ()), ("back", 0, ())
        self.assertEqual(self.rows(), ())
        self.assertEqual(self.rows(out), (((0, 0), (0, 3)),))
        self.assertEqual(self.rows(("call", "e", 1, ())), (((0, 0), (0, 1), (0, 2)),))
        # Rounds: those ahead of the first row that is met again as it was.
        self.assertEqual(self.rows(out, back), (((0, 0), (0, 3)), ((0, 4), (0, 5), (0, 6))))
        # A row that stops: read of none, and the third make.
        self.assertEqual(self.rows(("call", "f", 0, ())), (((1, 0),),))
        three = self.rows(*(("call", "e", 1, ()),) * 3)
        self.assertEqual(three[2], ((0, 0), (0, 1)))
        # Guards that stop.
        self.assertEqual(self.rows(("call", "e", 2, ()), guards=(("below", "e"),)), ((),))
        self.assertEqual(self.rows(("call", "f", 1, ()), guards=(("given", "f"),)), ((),))
        self.assertEqual(self.rows(out, ("call", "k", 0, ()), guards=(("alone", "k"),))[1], ())
        self.assertEqual(self.rows(("back", 0, ()), guards=(("idle", ""),)), ((),))
        self.assertEqual(self.rows(out, ("back", 3, ()), guards=(("below", "g"),))[1], ())
        # With a bare idle, behind call 0.
        self.assertEqual(self.rows(("back", 1, ())), (((0, 4), (0, 5), (0, 6)),))
        # No call to go behind.
        module = module_of("room 0", "entry e x num 4 num 4", "back x")
        self.assertEqual(wide_rows(BOOK, module, (), (), (("back", 0, ()),)), ((),))

    def test_rounds(self):
        module = module_of("room 0", "cell n num 3", "entry e x num 4 num 4", "add n 1", "if x 0 3", "go 0", "back x", "entry f x num 4 num 4", "go 0",
                           "entry g x num 4 num 4", "add x 2", "go 0")
        rows = wide_rows(BOOK, module, (), (), (("call", "e", 0, ()), ("call", "e", 1, ())))
        self.assertEqual(rows, (((0, 0), (0, 1), (0, 3)), ((0, 0), (0, 1), (0, 2)) * 3))
        self.assertEqual(wide_rows(BOOK, module, (), (), (("call", "f", 0, ()),)), (((1, 0),),))
        self.assertEqual(wide_rows(BOOK, module, (), (), (("call", "g", 1, ()),)), (((2, 0), (2, 1)) * 2,))

    def test_against_a_second_reading(self):
        rng = random.Random(21)
        for _ in range(600):
            book = makers.random_book(rng, (3, 4))
            guest = makers.random_guest(rng, book, makers.random_doors(rng, book))
            guards = random_guards(rng, book, guest)
            code, secrets = compiled(book, guest, guards), rng.choice(guest.all_secrets())
            script = random_script(rng, code, secrets, 6)
            mirror, rows = Wide(book, guest, guards, secrets), []
            for deed in script:
                mirror.met = []
                mirror.deed(deed)
                rows.append(tuple((entry, row) for entry, row, _ in mirror.met))
            self.assertEqual(wide_rows(book, guest, guards, secrets, script), tuple(rows))

    def test_errors_in_their_order(self):
        for call in (wide_sights, wide_rows):
            check_first_errors(self, call, (None,))
            self.assertEqual(caught(InvalidSecrets, call, BOOK, GUEST, (), (2,), None), 0)
            for value in values():
                if not isinstance(value, (list, tuple)):
                    self.assertEqual(caught(InvalidScript, call, BOOK, GUEST, (), (0,), value), -1)
                self.assertEqual(caught(InvalidScript, call, BOOK, GUEST, (), (0,), [("call", "f", 0, ()), value]), 1)
            self.assertEqual(caught(Refused, call, BOOK, GUEST, (), (0,), [("call", "f", 0, ()), ("back", 0, ())]), 1)


def check_first_errors(test, call, rest):
    """Books, modules, spots and secrets are looked at first, in this order."""
    for value in values():
        if not isinstance(value, Book):
            test.assertEqual(caught(InvalidBook, call, value, None, None, None, *rest), "book")
        if not isinstance(value, Module):
            test.assertEqual(caught(InvalidModule, call, BOOK, value, None, None, *rest), ("module",))
        if not isinstance(value, (list, tuple)):
            test.assertEqual(caught(InvalidSpots, call, BOOK, GUEST, value, None, *rest), -1)
        elif value:
            test.assertEqual(caught(InvalidSpots, call, BOOK, GUEST, value, None, *rest), 0)
    test.assertEqual(caught(InvalidModule, call, Book(4, True, 0, True, False), GUEST, None, None, *rest), ("classes", 0))


class Honest(unittest.TestCase):
    def test_plays_under_every_lot(self):
        rng = random.Random(22)
        named = 0
        for _ in range(700):
            book = makers.random_book(rng)
            guest = makers.random_guest(rng, book, makers.random_doors(rng, book))
            secrets = rng.choice(guest.all_secrets())
            play, state = makers.random_play(rng, book, guest, secrets, 8)
            guards = random_guards(rng, book, guest)
            script = honest_script(book, guest, guards, secrets, play[::2])
            self.assertEqual(len(script), len(play) // 2)
            renamed = ("number", "") in guards
            numbers = (0,) + state[2] + (0,) * 9
            kinds = {out: kind_in for out, kind_in, _ in guest.outs}
            entries = []
            for deed, move, sight, out in zip(script, play[::2], sights(compiled(book, guest, guards), secrets, script), play[1::2]):
                self.assertEqual((deed[:-2], deed[-1]), (move[:-1], ()))
                entries += [guest.entries[guest.entry_at(move[1])][3]] if move[0] == "call" else []
                kind = kinds[out[1]] if out[0] == "call" else entries.pop()
                own = kind[0] == "thing" and kind[1] not in guest.foreign
                self.assertEqual(sight[0], out if renamed or not own else out[:-1] + (numbers[out[-1]],))
                named += own and not renamed and out[-1] > 0
            self.assertEqual(wide_rows(book, guest, guards, secrets, script), tuple(trails(guest, secrets, play[::2])))
        self.assertGreater(named, 5)

    def test_words_of_own_things(self):
        # The second thing that is made goes out first.
        book = Book(4, True, 1, False, False)
        module = module_of("class box 4", "room 3", "entry e x num 4 thing box", "local b thing box", "make b box x", "make b box x", "back b",
                           "entry f c thing box num 4", "local t num 4", "read t c", "back t")
        moves = (("call", "e", 2), ("call", "f", 1), ("call", "f", 0))
        self.assertEqual(honest_script(book, module, (), (), moves), (("call", "e", 2, ()), ("call", "f", 2, ()), ("call", "f", 0, ())))
        renamed = honest_script(book=book, module=module, guards=[["number", ""]], secrets=[], moves=list(map(list, moves)))
        self.assertEqual(renamed, (("call", "e", 2, ()), ("call", "f", 1, ()), ("call", "f", 0, ())))
        # Behind two calls the list has the numbers 2 and 3.
        several = module_of("class box 4", "room 3", "cell k thing box", "entry e x num 4 thing box", "if x 0 3", "make k box x", "back k", "make k box x",
                            "make k box x", "back k", "entry f c thing box num 4", "local t num 4", "read t c", "back t")
        moves = (("call", "e", 0), ("call", "e", 1), ("call", "f", 2), ("call", "f", 1))
        self.assertEqual([deed[2] for deed in honest_script(book, several, (), (), moves)], [0, 1, 3, 2])
        self.assertEqual([deed[2] for deed in honest_script(book, several, (("number", ""),), (), moves)], [0, 1, 2, 1])
        foreign = module_of("room 0", "foreign far", "cell k thing far", "entry e c thing far thing far", "copy k c", "back c")
        self.assertEqual(honest_script(book, foreign, (), (), (("call", "e", 1), ("call", "e", 2), ("call", "e", 1))),
                         (("call", "e", 1, ()), ("call", "e", 2, ()), ("call", "e", 1, ())))

    def test_errors_in_their_order(self):
        check_first_errors(self, honest_script, (None,))
        self.assertEqual(caught(InvalidSecrets, honest_script, BOOK, GUEST, (), (), None), -1)
        for value in values():
            if not isinstance(value, (list, tuple)):
                self.assertEqual(caught(InvalidPlay, honest_script, BOOK, GUEST, (), (0,), value), -1)
        self.assertEqual(caught(InvalidPlay, honest_script, BOOK, GUEST, (), (0,), [("call", "e", 9), ("never",)]), 1)
        for moves, at in (([("call", "e", 2)], 0), ([("back", 0)], 0), ([("call", "f", 1)], 0), ([("call", "e", 0), ("call", "k", 0)], 1),
                          ([("call", "f", 0), ("call", "e", 0)], 1)):
            self.assertEqual(caught(Refused, honest_script, BOOK, GUEST, (), (0,), moves), at)
            self.assertEqual(caught(Refused, answers, BOOK, GUEST, (0,), moves), at)


def trails(guest, secrets, moves):
    state = begin(guest, secrets)
    for move in moves:
        yield trail(guest, state, move)
        state = answered(guest, state, move)[1]


class Piled(unittest.TestCase):
    CALLER = module_of("room 0", "out g num 4 num 4", "entry e x num 4 num 4", "local t num 4", "local u num 4", "copy u x", "call t g x", "add x 1",
                       "back u")
    FRAME = (("frame", "g"),)

    def test_room_for_what_is_kept(self):
        script = (("call", "e", 2, ()), ("back", 1, ()))
        whole = wide_sights(INSIDE, self.CALLER, self.FRAME, (), script)
        for kept, least in ((((0, 1, 2),), 4), (((2,),), 2), (((0, 2),), 3)):
            for room in range(6):
                told = (INSIDE, self.CALLER, self.FRAME, kept, room, ())
                if room < least:
                    self.assertEqual(piled_sights(*told, script[:1]), (NEVER,))
                    self.assertEqual(caught(Refused, piled_sights, *told, script), 1)
                elif 0 in kept[0]:
                    self.assertEqual(piled_sights(*told, script), whole)
        # What isn't kept comes back as 0: u, which is answered; x, from which R1 is left.
        self.assertEqual(piled_sights(INSIDE, self.CALLER, self.FRAME, ((2,),), 9, (), script)[1], (("back", 2), 1, 0, 0, ()))
        self.assertEqual(piled_sights(INSIDE, self.CALLER, self.FRAME, ((0, 1),), 9, (), script)[1], (("back", 0), 3, 0, 0, ()))
        self.assertEqual(piled_sights(INSIDE, self.CALLER, self.FRAME, ((),), 1, (), script)[1], (("back", 0), 1, 0, 0, ()))
        self.assertEqual(whole[1], (("back", 2), 3, 0, 0, ()))
        named = piled_sights(book=INSIDE, module=self.CALLER, guards=[["frame", "g"]], kept=[[0, 2]], room=3, secrets=[], script=[["call", "e", 2, []]])
        self.assertEqual(named, whole[:1])

    def test_several_calls(self):
        script = (("call", "e", 0, ()),) * 3
        for room in range(10):
            fits = min(3, room // 3)
            seen = piled_sights(INSIDE, self.CALLER, self.FRAME, ((0, 2),), room, (), script[:fits + 1])
            self.assertEqual([sight == NEVER for sight in seen], [False] * fits + [True] * (fits < 3))
        # A frame that lies open takes 1 alone.
        seen = piled_sights(INSIDE, self.CALLER, (), (None,), 2, (), script)
        self.assertEqual([sight == NEVER for sight in seen], [False, False, True])
        self.assertEqual(len(seen[1][4]), 2)
        # What comes back makes room again.
        again = (("call", "e", 0, ()), ("back", 0, ())) * 4
        self.assertNotIn(NEVER, piled_sights(INSIDE, self.CALLER, self.FRAME, ((0, 2),), 3, (), again))

    def test_kept_names_change_nothing(self):
        rng = random.Random(24)
        short = 0
        for _ in range(800):
            book = makers.random_book(rng)
            guest = makers.random_guest(rng, book, makers.random_doors(rng, book))
            guards = random_guards(rng, book, guest)
            code, secrets = compiled(book, guest, guards), rng.choice(guest.all_secrets())
            script, kept = random_script(rng, code, secrets, 8), kept_names(book, guest, guards)
            self.assertEqual(piled_sights(book, guest, guards, kept, 10 ** 6, secrets, script), sights(code, secrets, script))
            many = len(guest.cells)
            some = [None if told is None else tuple(v for v in range(many, many + 1 + len(guest.entries[entry][4])) if rng.random() < 0.6)
                    for told, (entry, _) in zip(kept, guest.calls())]
            room = rng.randrange(8)
            seen = ()
            for at in range(len(script)):
                seen = piled_sights(book, guest, guards, some, room, secrets, script[:at + 1])
                if seen[-1] == NEVER:
                    break
            self.assertEqual(seen, mirror_piled(book, guest, guards, some, room, secrets, script[:len(seen)]))
            short += seen != sights(code, secrets, script)
        self.assertGreater(short, 50)

    def test_deep_piles_part_as_their_web_tells(self):
        # By the secret another call is done, which keeps less: nothing else shows it, but how many fit on the pile.
        module = module_of("room 0", "secret s num 2", "cell z num 2", "out g num 2 num 2", "entry e x num 2 num 2", "local t num 2", "local k num 2",
                           "copy k x", "if s 0 6", "call t g z", "if k 0 5", "go 5", "back z", "call t g z", "if x 0 8", "if k 0 9", "back z")
        book = Book(3, True, 0, True, True)
        every = spots(book, module)
        kept = kept_names(book, module, every)
        self.assertEqual(kept, ((4,), (2, 4)))
        steps = pile_steps(book, module, (), (0,), (1,))
        sizes = [1 + len(told) for told in kept]
        web = (2, tuple((level, sizes[one], sizes[other], above) for level, one, other, above in steps))
        self.assertEqual(web, (2, ((0, 3, 2, 1), (1, 3, 2, 1))))
        for room in range(16):
            ends = []
            for secrets in ((0,), (1,)):
                many = 1
                while piled_sights(book, module, every, kept, room, secrets, (("call", "e", 1, ()),) * many)[-1] != NEVER:
                    many += 1
                ends.append(many)
            self.assertEqual(ends[0] != ends[1], is_parted(web, room))

    def test_errors_in_their_order(self):
        check_first_errors(self, piled_sights, (None, None, None))
        told = (INSIDE, self.CALLER, self.FRAME)
        for value in values():
            if not isinstance(value, (list, tuple)) or len(value) != 1:
                self.assertEqual(caught(InvalidFrames, piled_sights, *told, value, None, None, None), -1)
            if value not in ((), [], (0,), [0], (1, 2), [1, 2]):
                self.assertEqual(caught(InvalidFrames, piled_sights, *told, (value,), None, None, None), 0, value)
        for wrong in (None, (3,), (-1,), (1, 0), (0, 0), (0, 1, 2, 3), (True,), "0"):
            self.assertEqual(caught(InvalidFrames, piled_sights, *told, [wrong], None, None, None), 0)
        self.assertEqual(caught(InvalidFrames, piled_sights, INSIDE, self.CALLER, (), ((),), None, None, None), 0)
        two = module_of("room 0", "cell n num 4", "out g num 4 num 4", "out h num 4 num 4", "entry e x num 4 num 4", "call x g x", "call x h x", "back x")
        self.assertEqual(caught(InvalidFrames, piled_sights, INSIDE, two, self.FRAME, ((1,), (1,)), None, None, None), 1)
        self.assertEqual(caught(InvalidFrames, piled_sights, INSIDE, two, self.FRAME, ((0,), (1,)), None, None, None), 0)
        self.assertEqual(caught(InvalidFrames, piled_sights, INSIDE, two, self.FRAME, (None, None), None, None, None), 0)
        for value in no_numbers(10 ** 6):
            self.assertEqual(caught(InvalidSize, piled_sights, INSIDE, two, self.FRAME, ((1,), None), value, None, None), "room")
        self.assertEqual(caught(InvalidSecrets, piled_sights, INSIDE, two, self.FRAME, ((1,), None), 10 ** 6, (0,), None), -1)
        self.assertEqual(caught(InvalidScript, piled_sights, INSIDE, two, self.FRAME, ((1,), None), 0, (), (3,)), 0)
        self.assertEqual(caught(InvalidFrames, piled_sights, BOOK, GUEST, (), (), None, None, None), -1)
        plain = module_of("room 0", "entry e x num 4 num 4", "back x")
        self.assertEqual(piled_sights(BOOK, plain, (), [], 0, (), (("call", "e", 1, ()),)), ((("back", 1), 0, 0, 0, ()),))


if __name__ == "__main__":
    unittest.main()
