"""[21] Facts: the words that strangers can bring about."""

import random
import unittest

from nomoreseen.compiler import compiled
from nomoreseen.edges import Facts
from nomoreseen.errors import InvalidBook, InvalidModule, InvalidSpots
from nomoreseen.machine import first_room
from nomoreseen.modules import Book
from nomoreseen.spots import spots
from tests.anything import caught, values
from tests.makers import random_book, random_doors, random_guest
from tests.scripts import random_deed, random_guards
from tests.test_machine import module_of
from tests.wideread import Wide


class Slow:
    """The same sets, as sets, by rounds over all that is told until nothing is added."""

    def __init__(self, book, module, guards):
        self.book, self.module, self.guards = book, module, guards
        self.words = set(range(book.word))
        self.many = len(module.cells)
        self.held, self.fields = {}, {0}
        self.rest = [set(range(kind[1])) if secret else {0} for _, kind, secret in module.cells]
        self.handed = [set() for _ in module.classes]
        before = None
        while before != self.state():
            before = self.state()
            self.round()

    def state(self):
        return repr([sorted(self.held), [[sorted(part) for part in self.held[at]] for at in sorted(self.held)], sorted(self.fields),
                     [sorted(part) for part in self.rest], [sorted(part) for part in self.handed]])

    def comes(self, seam, kind):
        if kind[0] == "num":
            return set(range(kind[1])) if ("below", seam) in self.guards else set(self.words)
        names = [name for name, _ in self.module.classes]
        if kind[1] not in names or ("given", seam) not in self.guards:
            return set(self.words)
        words = {0}
        for name, handed in zip(names, self.handed):
            if name == kind[1] or ("class", seam) not in self.guards:
                words |= handed
        return words

    def add(self, place, held):
        there = self.held.setdefault(place, [set() for _ in held])
        for one, other in zip(there, held):
            one |= other

    def round(self):
        module, zero = self.module, [{0}, {0}, {0}]
        for at, (name, _, kind, _, inner, _) in enumerate(module.entries):
            self.add((at, 0), self.rest + [self.comes(name, kind)] + [{0} for _ in inner] + zero)
        if module.calls() and ("idle", "") not in self.guards:
            entry, row = module.calls()[0]
            self.behind(entry, row, self.rest, [{0}] * (1 + len(module.entries[entry][4])))
        for entry, row in list(self.held):
            held = [set(part) for part in self.held[entry, row]]
            step = module.steps[entry][row]
            if step[0] in ("call", "back"):
                self.leaves(entry, row, step, held)
            else:
                for target, told in self.ways(step, row, held):
                    self.add((entry, target), told)

    def behind(self, entry, row, cells, frame):
        step = self.module.steps[entry][row]
        name, _, kind = self.module.outs[step[2]]
        held = list(cells) + list(frame) + [{0}, {0}, {0}]
        held[step[1]] = self.comes(name, kind)
        self.add((entry, row + 1), held)

    def leaves(self, entry, row, step, held):
        module = self.module
        for at in range(self.many):
            self.rest[at] |= held[at]
        kind, value = (module.outs[step[2]][1], step[3]) if step[0] == "call" else (module.entries[entry][3], step[1])
        if kind[0] == "thing" and kind[1] in module.own_at:
            self.handed[module.own_at[kind[1]]] |= held[value] - {0}
        if step[0] == "call":
            alone = all(("alone", told[0]) in self.guards for told in module.entries)
            framed = ("frame", module.outs[step[2]][0]) in self.guards
            frame = held[self.many:-3]
            self.behind(entry, row, held[:self.many] if alone else self.rest, frame if framed else [self.words] * len(frame))

    def ways(self, step, row, held):
        word, a = step[0], step[1]
        told = [set(part) for part in held]
        if word == "go":
            return [(a, told)]
        if word == "if":
            no = [set(part) for part in held]
            told[a] = told[-3] = held[a] & {step[2]}
            told[-1] = {1}
            no[a] = no[-3] = held[a] - {step[2]}
            no[-1] = {0}
            return [(at, part) for at, part in ((step[3], told), (row + 1, no)) if part[a]]
        if word == "same":
            b = step[2]
            found = []
            if held[a] & held[b]:
                told[a] = told[b] = told[-3] = told[-2] = held[a] & held[b]
                told[-1] = {1}
                found.append((step[3], told))
            if a != b and len(held[a] | held[b]) > 1:
                found.append((row + 1, held[:-3] + [held[a], held[b], {0}]))
            return found
        if word == "make":
            if self.module.room == 0:
                return []
            self.fields |= held[step[3]]
            told[-3] = held[step[3]]
            told[a] = told[-2] = set(range(1, self.module.room + 1))
        elif word in ("read", "write"):
            thing = step[2] if word == "read" else a
            if held[thing] == {0}:
                return []
            told[thing] = told[-2] = held[thing] - {0}
            if word == "write":
                self.fields |= held[step[2]]
                told[-3] = held[step[2]]
            else:
                told[a] = told[-3] = set(self.fields)
        else:
            made = {"set": {step[2]}, "copy": held[step[2]] if word == "copy" else None}.get(word)
            told[a] = told[-3] = made if made is not None else {(x + step[2]) % step[3] for x in held[a]}
        return [(row + 1, told)]


def told(facts):
    module = facts.module
    words = [facts.words_at(at, row) for at, steps in enumerate(module.steps) for row in range(len(steps))]
    behind = [facts.is_behind(call) for call in range(len(module.calls()))]
    handed = [facts.handed_out(own) for own in range(len(module.classes))]
    return words, facts.rest(), facts.fields(), handed, behind


BOOK = Book(4, True, 2, True, False)
PLAIN = module_of(
    "room 0", "secret s num 2", "cell n num 2", "entry e x num 2 num 2", "local t num 3", "if x 1 3", "add t 2", "go 4", "copy n x", "back n",
    "set n 1", "back n",
)


class ByHand(unittest.TestCase):
    def test_numbers(self):
        bare = Facts(BOOK, PLAIN, ())
        zero, every = (0,), (0, 1, 2, 3)
        bit = (0, 1)
        # Variables: s, n, x, t, then R1, R2, Z.
        self.assertEqual(bare.words_at(0, 0), (bit, bit, every, zero, zero, zero, zero))
        self.assertEqual(bare.words_at(0, 1), (bit, bit, (0, 2, 3), zero, (0, 2, 3), zero, zero))
        self.assertEqual(bare.words_at(0, 2), (bit, bit, (0, 2, 3), (2,), (2,), zero, zero))
        self.assertEqual(bare.words_at(0, 3), (bit, bit, (1,), zero, (1,), zero, (1,)))
        self.assertEqual(bare.words_at(0, 4), (bit, bit, every, (0, 2), (1, 2), zero, bit))
        self.assertIsNone(bare.words_at(0, 5))
        self.assertIsNone(bare.words_at(entry=0, row=6))
        self.assertEqual((bare.rest(), bare.fields()), ((bit, bit), (0,)))
        self.assertEqual((bare.book, bare.module, bare.guards), (BOOK, PLAIN, ()))
        below = Facts(BOOK, PLAIN, [["below", "e"]])
        self.assertEqual(below.guards, (("below", "e"),))
        self.assertEqual(below.words_at(0, 1), (bit, bit, zero, zero, zero, zero, zero))

    def test_frames_cells_and_calls(self):
        module = module_of(
            "room 0", "cell n num 4", "out g num 4 num 2", "entry e x num 4 num 4", "local t num 2", "local u num 2", "set u 1", "set n 2",
            "call t g n", "set n 3", "back n", "entry f y num 4 num 4", "back n")
        zero, every = (0,), (0, 1, 2, 3)
        bare = Facts(BOOK, module, ())
        # Behind call 0 somebody comes with a frame of 0, and behind the call with any frame.
        self.assertEqual(bare.words_at(0, 3), ((0, 2, 3), every, every, every, zero, zero, zero))
        self.assertEqual((bare.rest(), bare.is_behind(0)), (((0, 2, 3),), True))
        spots_of = set(spots(BOOK, module))
        framed = Facts(BOOK, module, [("frame", "g")])
        self.assertEqual(framed.words_at(0, 3), ((0, 2, 3), every, every, (0, 1), zero, zero, zero))
        idle = Facts(BOOK, module, [("frame", "g"), ("idle", "")])
        self.assertEqual(idle.words_at(0, 3), ((0, 2, 3), every, every, (1,), zero, zero, zero))
        alone = Facts(BOOK, module, [("frame", "g"), ("idle", ""), ("alone", "e")])
        self.assertEqual(alone.words_at(0, 3)[0], (0, 2, 3))
        alone = Facts(BOOK, module, [("frame", "g"), ("idle", ""), ("alone", "e"), ("alone", "f"), ("below", "g")])
        self.assertEqual(alone.words_at(0, 3), ((2,), every, (0, 1), (1,), zero, zero, zero))
        self.assertIn(("below", "g"), spots_of)

    def test_calls_that_are_not_reached(self):
        module = module_of("room 0", "out g num 4 num 4", "entry e x num 4 num 4", "local t num 4", "go 4", "call t g t", "call x g x",
                           "back t", "back x")
        bare, full = Facts(BOOK, module, ()), Facts(BOOK, module, [("idle", "")])
        self.assertEqual((bare.is_behind(0), bare.is_behind(call=1)), (True, True))
        self.assertEqual((full.is_behind(0), full.is_behind(1)), (False, False))
        self.assertIsNone(bare.words_at(0, 1))
        every = (0, 1, 2, 3)
        self.assertEqual(bare.words_at(0, 2), ((0,), every, (0,), (0,), (0,)))
        self.assertEqual(bare.words_at(0, 3), (every, every, (0,), (0,), (0,)))
        self.assertIsNone(full.words_at(0, 2))

    def test_things(self):
        module = module_of(
            "class box 2", "class jar 2", "room 2", "foreign far", "cell b thing box", "entry e x num 2 thing box", "make b box x", "back b",
            "entry f j thing jar num 4", "local t num 2", "local u num 4", "read t j", "write j t", "back u", "entry h z thing far num 4",
            "local u num 4", "back u")
        zero, every = (0,), (0, 1, 2, 3)
        bare = Facts(BOOK, module, ())
        self.assertEqual(bare.words_at(1, 0)[1], every)
        self.assertEqual(bare.words_at(1, 1), ((0, 1, 2), (1, 2, 3), every, zero, every, (1, 2, 3), zero))
        self.assertEqual((bare.fields(), bare.handed_out(0), bare.handed_out(own=1), bare.rest()), (every, (1, 2), (), ((0, 1, 2),)))
        self.assertEqual(bare.words_at(0, 1), ((1, 2), every, every, (1, 2), zero))
        given = Facts(BOOK, module, [("given", "f"), ("below", "e")])
        self.assertEqual(given.words_at(1, 0)[1], (0, 1, 2))
        self.assertEqual(given.fields(), (0, 1))
        classed = Facts(BOOK, module, [("given", "f"), ("class", "f"), ("below", "e")])
        self.assertEqual(classed.words_at(1, 0)[1], zero)
        self.assertIsNone(classed.words_at(1, 1))
        self.assertEqual(classed.words_at(2, 0)[1], every)
        module = module_of("class box 2", "class jar 2", "room 2", "entry e x num 2 thing box", "local b thing box", "make b box x", "back b",
                           "entry f j thing box num 4", "local u num 4", "local b thing box", "local x num 2", "same j b 2", "back u", "make b box x",
                           "same b j 5", "back u", "same b j 6", "back u")
        full = Facts(BOOK, module, spots(BOOK, module))
        self.assertEqual((full.words_at(1, 0)[0], full.words_at(1, 1)[0], full.words_at(1, 3)[0]), ((0, 1, 2), (0, 1, 2), (0,)))
        # A new thing is never none, which is what the parameter still is here.
        self.assertEqual((full.words_at(1, 4), full.words_at(1, 5)), (((0,), zero, (1, 2), zero, (1, 2), zero, zero), None))
        empty = module_of("class box 2", "room 0", "cell b thing box", "entry e x num 2 thing box", "make b box x", "back b")
        self.assertIsNone(Facts(BOOK, empty, ()).words_at(0, 1))
        self.assertEqual(Facts(BOOK, empty, ()).fields(), zero)

    def test_same(self):
        module = module_of("room 0", "foreign far", "cell f thing far", "entry e x thing far thing far", "same x f 2", "same x x 3", "copy f x",
                           "back x", "back x", "back f")
        facts = Facts(BOOK, module, ())
        every = (0, 1, 2, 3)
        self.assertEqual(facts.words_at(0, 1), ((0,), every, every, (0,), (0,)))
        self.assertEqual(facts.words_at(0, 2), ((0,), (0,), (0,), (0,), (1,)))
        self.assertEqual(facts.words_at(0, 3), ((0,), every, every, every, (1,)))
        self.assertIsNone(facts.words_at(0, 4))
        module = module_of("room 0", "foreign far", "cell f thing far", "entry e x num 4 thing far", "local g thing far", "same f g 2", "back f",
                           "back g")
        facts = Facts(BOOK, module, ())
        self.assertIsNone(facts.words_at(0, 1))
        self.assertEqual(facts.words_at(0, 2), ((0,), every, (0,), (0,), (0,), (1,)))

    def test_wrong_arguments(self):
        for value in values():
            if not isinstance(value, Book):
                self.assertEqual(caught(InvalidBook, Facts, value, None, None), "book")
            if value not in ((), []):
                caught(InvalidSpots, Facts, BOOK, PLAIN, value)
        self.assertEqual(caught(InvalidModule, Facts, BOOK, None, None), ("module",))
        self.assertEqual(caught(InvalidModule, Facts, Book(3, False, 0, False, False), PLAIN, 5), ("cells", 0))
        self.assertEqual(caught(InvalidSpots, Facts, BOOK, PLAIN, [("wipe", "e"), ("below", "f")]), 1)


class Random(unittest.TestCase):
    def test_against_slow_sets(self):
        rng = random.Random(21)
        unreached = 0
        for _ in range(400):
            book = random_book(rng)
            module = random_guest(rng, book, random_doors(rng, book), rows=8)
            guards = random_guards(rng, book, module)
            words, rest, fields, handed, behind = told(Facts(book, module, list(guards[::-1])))
            slow = Slow(book, module, guards)
            places = [(at, row) for at, steps in enumerate(module.steps) for row in range(len(steps))]
            for place, found in zip(places, words):
                wanted = slow.held.get(place)
                self.assertEqual(found, None if wanted is None else tuple(tuple(sorted(part)) for part in wanted))
            unreached += words.count(None)
            self.assertEqual((rest, fields), (tuple(tuple(sorted(part)) for part in slow.rest), tuple(sorted(slow.fields))))
            self.assertEqual(handed, [tuple(sorted(part)) for part in slow.handed])
            reached = [place in slow.held or (at == 0 and ("idle", "") not in guards) for at, place in enumerate(module.calls())]
            self.assertEqual(behind, reached)
        self.assertGreater(unreached, 200)

    def test_whatever_comes_stands_in_them(self):
        rng = random.Random(22)
        for _ in range(300):
            book = random_book(rng)
            module = random_guest(rng, book, random_doors(rng, book), rows=8)
            guards = random_guards(rng, book, module)
            facts, code = Facts(book, module, guards), compiled(book, module, guards)
            for _ in range(4):
                secrets = rng.choice(module.all_secrets())
                wide = Wide(book, module, guards, secrets)
                room = first_room(code, secrets)
                for _ in range(8):
                    sight, _ = wide.deed(random_deed(rng, code, room))
                    if sight == (("never",),):
                        break
                    room = wide.room()
                    self.assertTrue(all(word in rest for word, rest in zip(room[0], facts.rest())))
                    self.assertTrue(all(field in facts.fields() for _, field in room[1]))
                for entry, row, held in wide.met:
                    self.assertTrue(all(word in words for word, words in zip(held, facts.words_at(entry, row))))


if __name__ == "__main__":
    unittest.main()
