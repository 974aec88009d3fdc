"""[29], [30], [33] Sights, scripts that part two codes, what is due to be seen, and the play that a script is."""

import itertools
import random
import unittest

from nomoreseen.compiler import compiled
from nomoreseen.errors import InvalidBook, InvalidCode, InvalidModule, InvalidScript, InvalidSecrets, InvalidSize, Refused
from nomoreseen.machine import entered, first_room
from nomoreseen.modules import Book, Module
from nomoreseen.plain import answered, begin
from nomoreseen.sights import due_sights, parting_script, play_of, sights
from nomoreseen.spots import bites, spots, spots_of
from tests import makers
from tests.anything import MODULE, caught, no_numbers, values
from tests.scripts import random_deed, random_guards, random_script
from tests.test_live import lawful_move
from tests.test_machine import code_of, module_of

BOOK = Book(4, True, 2, True, False)
INSIDE = Book(4, True, 2, True, True)
NEVER = (("never",),)
GUEST = module_of("room 0", "secret s num 2", "out g num 2 num 2", "entry e x num 2 num 2", "copy x s", "back x", "entry f x num 4 num 4",
                  "local t num 2", "if x 3 3", "call t g t", "back x", "go 3")
CODE = code_of(BOOK, GUEST)
WRONG = [
    None, 3, "call", (), ("call",), ("call", "e", 0), ("call", "e", 4, ()), ("call", "z", 0, ()), ("call", 0, 0, ()), ("call", "e", True, ()),
    ("call", "e", 0, None), ("call", "e", 0, ((0, 0),)), ("call", "e", 0, ((0, 0, 4),)), ("call", "e", 0, ((-1, 0, 0),)), ("back", 0),
    ("back", 4, ()), ("back", -1, ()), ("back", 0, (3,)), ("back", "e", 0, ()), ("never",), ("call", "e", 0, (), ()), ("back", 0, ((0, True, 0),)),
]


class Sights(unittest.TestCase):
    def test_against_the_machine(self):
        rng = random.Random(29)
        for _ in range(300):
            book = makers.random_book(rng)
            guest = makers.random_guest(rng, book, makers.random_doors(rng, book))
            code, secrets = compiled(book, guest, random_guards(rng, book, guest)), rng.choice(guest.all_secrets())
            script, seen = random_script(rng, code, secrets, 8), []
            room = first_room(code, secrets)
            for deed in script:
                sight, room = entered(code, room, deed)
                seen.append(sight)
            listed = [[*deed[:-1], list(map(list, deed[-1]))] for deed in script]
            self.assertEqual(sights(code, secrets, script), tuple(seen))
            self.assertEqual(sights(code=code, secrets=list(secrets), script=listed), tuple(seen))
            if room is None:
                self.assertEqual(caught(Refused, sights, code, secrets, listed + [["back", 0, []], ["back", 0, []]]), len(script))

    def test_errors_in_their_order(self):
        for value in values():
            self.assertEqual(caught(InvalidCode, sights, value, None, None), ("code",))
            if not isinstance(value, (list, tuple)):
                self.assertEqual(caught(InvalidScript, sights, CODE, (0,), value), -1)
        for wrong, at in (((), -1), ((2,), 0), (None, -1), ((False,), 0)):
            self.assertEqual(caught(InvalidSecrets, sights, CODE, wrong, None), at)
        never = ("call", "f", 3, ())
        self.assertEqual(sights(CODE, (0,), (never,)), (NEVER,))
        for wrong in WRONG + values():
            self.assertEqual(caught(InvalidScript, sights, CODE, (0,), [never, ("back", 0, ()), wrong, None]), 2)
        self.assertEqual(caught(Refused, sights, CODE, (0,), [("call", "e", 0, ()), never, ("back", 0, ())]), 2)
        self.assertEqual(sights(CODE, (0,), ()), ())


def all_deeds(code, room):
    words = range(code.book.word)
    for entry in code.module.entries:
        for word in words:
            yield "call", entry[0], word, ()
    changes = [()]
    if room[4]:
        newest = len(room[4]) - 1
        rows = itertools.product(words, repeat=len(room[4][newest]))
        changes = [tuple((newest, place, word) for place, word in enumerate(row)) for row in rows]
    for word in words:
        for told in changes:
            yield "back", word, told


def fewest(one, other, pair, most):
    """The fewest deeds that part, by trying all scripts; None if none of so few do."""
    layer = [tuple(first_room(code, told) for code, told in zip((one, other), pair))]
    for many in range(1, most + 1):
        behind = set()
        for rooms in layer:
            for deed in all_deeds(one, rooms[0]):
                (sight, after), (told, later) = entered(one, rooms[0], deed), entered(other, rooms[1], deed)
                if sight != told:
                    return many
                if after is not None:
                    behind.add((after, later))
        layer = behind
    return None


class Parting(unittest.TestCase):
    def check(self, one, other, pair, script):
        self.assertGreater(len(script), 0)
        seen, seen_other = sights(one, pair[0], script), sights(other, pair[1], script)
        self.assertEqual((seen[:-1], seen[-1] == seen_other[-1]), (seen_other[:-1], False))

    def test_against_a_slow_search(self):
        rng = random.Random(31)
        found = {1: 0, 2: 0, 3: 0, None: 0}
        for _ in range(500):
            book = makers.random_book(rng, (3,))
            doors = makers.random_doors(rng, book)
            one = makers.random_guest(rng, book, doors, rows=4)
            other = rng.choice((makers.random_guest(rng, book, doors, rows=4), one, makers.mutant(rng, one), makers.mutant(rng, one)))
            codes = [compiled(book, guest, random_guards(rng, book, guest)) for guest in (one, other)]
            if rng.random() < 0.7:
                codes = [compiled(book, guest, spots_of(book, guest, bites(book)[:3])) for guest in (one, other)]
            pair = [rng.choice(guest.all_secrets()) for guest in (one, other)]
            if any(len(entry[4]) > 3 and any(row[0] == "call" for row in entry[5]) for entry in one.entries + other.entries):
                continue
            most = rng.choice((0, 1, 2, 2, 3))
            many = fewest(*codes, pair, most)
            script = parting_script(*codes, *pair, most)
            self.assertEqual(None if script is None else len(script), many)
            found[many] += 1
            if script is not None:
                self.check(*codes, pair, script)
        self.assertGreater(min(found[1], found[None]), 30, found)
        self.assertGreater(found[2] + found[3], 0, found)

    def test_fewest_deeds(self):
        # The n-th call shows it, or the n-th back.
        book = Book(5, True, 0, True, False)
        for rows in (("add n 1", "if n {} 3", "back x", "set x 1", "back x"), ("call x g x", "add n 1", "if n {} 0", "set x 1", "back x")):
            head = ["room 0", "cell n num 5", "out g num 5 num 5", "entry e x num 5 num 5"]
            guests = [module_of(*head, *[row.format(at) for row in rows]) for at in range(1, 5)]
            codes = [code_of(book, guest) for guest in guests]
            for at, other in itertools.permutations(range(4), 2):
                many = fewest(codes[at], codes[other], ((), ()), 6)
                self.assertEqual(many, min(at, other) + 1 if rows[0] != "call x g x" else 2 * min(at, other) + 2)
                for most in range(7):
                    script = parting_script(codes[at], codes[other], (), (), most)
                    self.assertEqual(None if script is None else len(script), many if many <= most else None)
                    if script is not None:
                        self.check(codes[at], codes[other], ((), ()), script)

    def test_changed_frames(self):
        # Only a changed local shows it, in the older one of two frames.
        heads = ["room 0", "out g num 3 num 3", "out h num 3 num 3", "entry e x num 3 num 3", "local t num 3"]
        book = Book(3, True, 0, True, True)
        one = module_of(*heads, "call x g x", "if t 2 3", "back x", "set x 1", "back x", "entry f x num 3 num 3", "call x h x", "back x")
        other = module_of(*heads, "call x g x", "if t 2 3", "back x", "set x 0", "back x", "entry f x num 3 num 3", "call x h x", "back x")
        self.assertIsNone(parting_script(compiled(book, one, ()), compiled(book, other, ()), (), (), 1))
        script = parting_script(compiled(book, one, ()), compiled(book, other, ()), (), (), 2)
        self.check(compiled(book, one, ()), compiled(book, other, ()), ((), ()), script)
        self.assertIn((0, 1, 2), script[1][-1])
        bare = [spot for spot in spots(book, one) if spot[0] != "frame"]
        self.assertIsNotNone(parting_script(compiled(book, one, bare), compiled(book, other, bare), (), (), 2))
        self.assertIsNone(parting_script(code_of(book, one), code_of(book, other), (), (), 2))

    def test_other_secrets_and_guards(self):
        for secrets, others, most, many in (((0,), (1,), 1, 1), ((0,), (1,), 0, None), ((1,), (1,), 6, None)):
            script = parting_script(CODE, CODE, secrets, others, most)
            self.assertEqual(None if script is None else len(script), many)
        bare = code_of(BOOK, GUEST, ("wipe", "e"))
        self.assertEqual(len(parting_script(one=CODE, other=bare, secrets=[1], others=[1], most=3)), 1)

    def test_errors_in_their_order(self):
        unlike_book = compiled(Book(5, True, 2, True, False), GUEST, ())
        unlike_doors = compiled(BOOK, module_of("room 0", "entry e x num 2 num 2", "back x"), ())
        classes = [compiled(BOOK, module_of(f"class {name} 4", "room 0", "entry e x num 4 num 4", "back x"), ()) for name in ("box", "jar")]
        for value in values():
            self.assertEqual(caught(InvalidCode, parting_script, value, None, None, None, None), ("code",))
            self.assertEqual(caught(InvalidCode, parting_script, value, CODE, (0,), (0,), 1), ("code",))
            self.assertEqual(caught(InvalidCode, parting_script, CODE, value, None, None, None), ("code",))
            if repr(value) not in ("(0,)", "[0]"):
                self.assertEqual(caught(InvalidSecrets, parting_script, CODE, CODE, value, None, None), 0)
                self.assertEqual(caught(InvalidSecrets, parting_script, CODE, CODE, (0,), value, None), 1)
        self.assertEqual(caught(InvalidSize, parting_script, CODE, unlike_book, None, None, None), "books")
        self.assertEqual(caught(InvalidModule, parting_script, CODE, unlike_doors, None, None, None), ("entries", -1))
        self.assertEqual(caught(InvalidModule, parting_script, *classes, None, None, None), ("classes", -1))
        for value in no_numbers(6):
            self.assertEqual(caught(InvalidSize, parting_script, CODE, CODE, (0,), (1,), value), "most")

    def test_many_rooms(self):
        # A counter of 16 ** 3 numbers that nobody sees: so many rooms may be refused.
        book = Book(16, False, 0, True, True)
        module = module_of("room 0", "cell a num 16", "cell b num 16", "out g num 16 num 16", "entry e x num 16 num 16", "copy b a", "copy a x",
                           "call x g x", "go 3")
        try:
            self.assertIsNone(parting_script(code_of(book, module), code_of(book, module), (), (), 6))
        except InvalidSize as error:
            self.assertEqual(error.word, "rooms")


def due(book, module, secrets, script):
    """The due sights, read off the words of [30]."""
    state, known, told, moves = begin(module, secrets), {name: [] for name in module.foreign}, [], []
    for deed in script:
        waiting = state[4]
        move = lawful_move(book, module, state, known, deed)
        if move is None:
            told.append(NEVER)
            break
        moves.append(move)
        out, state = answered(module, state, move)
        if state is None:
            told.append(NEVER)
            break
        if out[0] == "call":
            kind = module.outs[module.out_at(out[1])][1]
        else:
            kind = module.entries[module.entry_at(deed[1]) if deed[0] == "call" else waiting[-1][0]][3]
        if kind[0] == "thing" and kind[1] in module.foreign and out[-1]:
            out = out[:-1] + (known[kind[1]][out[-1] - 1],)
        told.append((out, 0, 0, 0, ()))
    return tuple(told), tuple(moves)


class Due(unittest.TestCase):
    def test_random_scripts(self):
        rng = random.Random(30)
        ends = {"none": 0, "never": 0, "foreign": 0, "long": 0, "spoken": 0}
        for _ in range(2500):
            book = makers.random_book(rng, (3, 4, 5))
            module = makers.random_guest(rng, book, makers.random_doors(rng, book))
            secrets = rng.choice(module.all_secrets())
            code = compiled(book, module, spots_of(book, module, bites(book)))
            script = random_script(rng, code, secrets, 8)
            told, moves = due(book, module, secrets, script)
            self.assertEqual(due_sights(book, module, secrets, script), told)
            self.assertEqual(play_of(book, module, secrets, script), moves)
            # With the guards of all tricks that bite the code shows just that.
            self.assertEqual(sights(code, secrets, script), told)
            if told[-1:] == (NEVER,):
                ends["never" if len(moves) == len(script) else "none"] += 1
                for call in (due_sights, play_of):
                    self.assertEqual(caught(Refused, call, book, module, secrets, script + (script[0],)), len(script))
            ends["foreign"] += any(sight != NEVER and sight[0][-1] > 1 for sight in told) and len(module.foreign)
            ends["long"] += len(told) > 4
            ends["spoken"] += any(deed[-1] for deed in script)
        self.assertGreater(min(ends.values()), 30, ends)

    def test_foreign_things(self):
        module = module_of("room 0", "foreign far", "cell k thing far", "entry keep c thing far thing far", "copy k c",
                           "back c", "entry last x num 4 thing far", "back k")
        script = (("call", "keep", 3, ()), ("call", "keep", 1, ()), ("call", "keep", 3, ()), ("call", "last", 0, ()), ("call", "keep", 0, ()),
                  ("call", "keep", 2, ()))
        self.assertEqual([sight[0][-1] for sight in due_sights(BOOK, module, (), script)], [3, 1, 3, 3, 0, 2])
        moves = (("call", "keep", 1), ("call", "keep", 2), ("call", "keep", 1), ("call", "last", 0), ("call", "keep", 0), ("call", "keep", 3))
        self.assertEqual(play_of(BOOK, module, (), script), moves)

    def test_words_that_are_none(self):
        module = module_of("class box 2", "class jar 2", "room 2", "out g num 2 num 2", "entry mb x num 2 thing box", "local b thing box",
                           "make b box x", "back b", "entry mj x num 2 thing jar", "local j thing jar", "make j jar x", "back j",
                           "entry tb b thing box num 2", "local t num 2", "back t", "entry wait x num 2 num 2", "call x g x", "back x")
        box, jar = ("call", "mb", 0, ()), ("call", "mj", 0, ())
        cases = [
            ((("call", "mb", 2, ()),), 0), ((("call", "tb", 1, ()),), 0), ((jar, box, ("call", "tb", 1, ())), 2), ((jar, box, ("call", "tb", 2, ())), None),
            ((jar, box, ("call", "tb", 0, ())), None), ((box, ("call", "tb", 2, ())), 1), ((("back", 0, ()),), 0),
            ((("call", "wait", 0, ()), ("call", "wait", 0, ())), 1), ((("call", "wait", 0, ()), ("back", 2, ())), 1),
            ((("call", "wait", 0, ((0, 0, 3),)), ("back", 1, ((0, 0, 0), (2, 2, 2)))), None), ((box, box, box), 2),
        ]
        for script, at in cases:
            told = due_sights(book=BOOK, module=module, secrets=[], script=[list(deed) for deed in script])
            self.assertEqual([sight == NEVER for sight in told].index(True) if NEVER in told else None, at, script)
            # A last deed that is none is left out; one answered never stands last.
            many = len(script) if at is None or script == (box,) * 3 else len(script) - 1
            self.assertEqual(len(play_of(BOOK, module, (), script)), many)
        self.assertEqual(due_sights(INSIDE, module, (), (("call", "wait", 0, ()), ("call", "wait", 0, ())))[1], (("call", "g", 0), 0, 0, 0, ()))

    def test_errors_in_their_order(self):
        for call in (due_sights, play_of):
            for value in values():
                if not isinstance(value, Book):
                    self.assertEqual(caught(InvalidBook, call, value, None, None, None), "book")
                if not isinstance(value, Module):
                    self.assertEqual(caught(InvalidModule, call, BOOK, value, None, None), ("module",))
                if not isinstance(value, (list, tuple)):
                    self.assertEqual(caught(InvalidSecrets, call, BOOK, GUEST, value, None), -1)
                    self.assertEqual(caught(InvalidScript, call, BOOK, GUEST, (0,), value), -1)
            self.assertEqual(caught(InvalidModule, call, Book(4, True, 0, False, False), GUEST, None, None), ("outs", 0))
            self.assertEqual(caught(InvalidSecrets, call, BOOK, GUEST, (2,), None), 0)
            none = ("call", "e", 3, ())
            for wrong in WRONG + values():
                self.assertEqual(caught(InvalidScript, call, BOOK, GUEST, (0,), [none, none, wrong]), 2)
            self.assertEqual(caught(Refused, call, BOOK, GUEST, (0,), [("call", "e", 0, ()), none, none, none]), 2)
            never = ("call", "f", 3, ())
            self.assertEqual(caught(Refused, call, BOOK, GUEST, (0,), [never, never]), 1)
        self.assertEqual(play_of(BOOK, GUEST, (0,), ()), ())
        self.assertEqual(play_of(BOOK, GUEST, (0,), [("call", "f", 3, ())]), (("call", "f", 3),))
        self.assertEqual(play_of(BOOK, GUEST, (0,), [("call", "e", 3, ())]), ())


if __name__ == "__main__":
    unittest.main()
