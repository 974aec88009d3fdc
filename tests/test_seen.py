"""[22], [24] What can still be seen ahead of a row, and which names a call must keep."""

import random
import unittest

from nomoreseen.compiler import compiled
from nomoreseen.edges import Facts
from nomoreseen.errors import InvalidBook, InvalidModule, InvalidSpots
from nomoreseen.machine import entered, first_room
from nomoreseen.modules import Book, Module
from nomoreseen.seen import Seen, kept_names
from nomoreseen.spots import spots
from tests.anything import caught, values
from tests.makers import random_book, random_doors, random_guest
from tests.scripts import random_deed, random_guards
from tests.test_machine import module_of
from tests.wideread import Never, Wide

BOOK = Book(4, True, 2, True, False)


class Slow:
    """The same sets by rounds over all rows, from the words of the facts alone."""

    def __init__(self, facts):
        self.facts, self.module = facts, facts.module
        self.many = len(facts.module.cells)
        self.calls = facts.module.calls()
        self.sets = {(at, row): set() for at, steps in enumerate(facts.module.steps) for row in range(len(steps))
                     if facts.words_at(at, row) is not None}
        self.rest = set()
        before = None
        while before != repr((sorted((at, sorted(told)) for at, told in self.sets.items()), sorted(self.rest))):
            before = repr((sorted((at, sorted(told)) for at, told in self.sets.items()), sorted(self.rest)))
            for place in self.sets:
                self.sets[place] = self.at(*place)
            for at in range(len(self.module.entries)):
                self.rest |= {v for v in self.sets[at, 0] if 0 <= v < self.many}
            for number in range(len(self.calls)):
                if facts.is_behind(number):
                    self.rest |= {v for v in self.behind_call(number) if v < self.many}

    def behind_call(self, number):
        entry, row = self.calls[number]
        return {v for v in self.sets[entry, row + 1] if v >= 0} - {self.module.steps[entry][row][1]}

    def targets(self, entry, row):
        step, words = self.module.steps[entry][row], self.facts.words_at(entry, row)
        if step[0] == "go":
            return {step[1]}
        if step[0] == "if":
            return {step[3]} & ({step[3]} if step[2] in words[step[1]] else set()) | ({row + 1} if set(words[step[1]]) - {step[2]} else set())
        if step[0] == "same":
            one, other = set(words[step[1]]), set(words[step[2]])
            found = {step[3]} if one & other else set()
            return found | ({row + 1} if step[1] != step[2] and len(one | other) > 1 else set())
        if step[0] == "make" and self.module.room == 0:
            return set()
        if step[0] in ("read", "write") and words[step[2 if step[0] == "read" else 1]] == (0,):
            return set()
        return {row + 1}

    def at(self, entry, row):
        step = self.module.steps[entry][row]
        word, a = step[0], step[1]
        if word in ("call", "back"):
            name = self.module.outs[step[2]][0] if word == "call" else self.module.entries[entry][0]
            told = {step[3] if word == "call" else a} | self.rest
            told |= set() if ("wipe", name) in self.facts.guards else {-1, -2, -3}
            if word == "call" and ("frame", name) in self.facts.guards:
                told |= {v for v in self.behind_call(self.calls.index((entry, row))) if v >= self.many}
            elif word == "call":
                told |= set(range(self.many, self.many + 1 + len(self.module.entries[entry][4])))
            return told
        behind = set()
        for target in self.targets(entry, row):
            behind |= self.sets[entry, target]
        if word == "go":
            return behind
        if word == "set":
            return behind - {a, -1}
        if word in ("copy", "add"):
            told = {step[2] if word == "copy" else a} if behind & {a, -1} else set()
            return behind - {a, -1} | told
        if word == "if":
            return behind - {-1, -3} | {a}
        if word == "same":
            return behind - {-1, -2, -3} | {a, step[2]}
        if word == "write":
            return behind - {-1, -2} | {a, step[2]}
        return behind - {a, -1, -2} | {step[3 if word == "make" else 2]}


class ByHand(unittest.TestCase):
    def test_rows_of_numbers(self):
        module = module_of(
            "room 0", "secret s num 2", "cell n num 4", "entry e x num 4 num 4", "local t num 4", "local u num 4", "set u 1", "copy t x",
            "add t 1", "if t 0 5", "copy n u", "back t", "set u 3", "back u")
        # Variables: s, n, x, t, u. Bare: registers are seen where it answers.
        seen = Seen(Facts(BOOK, module, ()))
        self.assertEqual(seen.ahead(0, 5), (-3, -2, -1, 3))
        self.assertEqual(seen.ahead(0, 4), (-3, -2, 3, 4))
        self.assertEqual(seen.ahead(0, 3), (-2, 3, 4))
        self.assertEqual(seen.ahead(0, 2), (-2, 3, 4))
        self.assertEqual(seen.ahead(0, 1), (-2, 2, 4))
        self.assertEqual(seen.ahead(0, 0), (-2, 2))
        self.assertIsNone(seen.ahead(0, 6))
        self.assertIsNone(seen.ahead(entry=0, row=7))
        wiped = Seen(facts=Facts(BOOK, module, [("wipe", "e")]))
        self.assertEqual([wiped.ahead(0, row) for row in range(6)], [(2,), (2,), (3,), (3,), (3,), (3,)])

    def test_cells_at_rest(self):
        module = module_of(
            "room 0", "cell n num 4", "cell o num 4", "cell p num 4", "entry e x num 4 num 4", "copy n x", "copy p x", "back x",
            "entry f y num 4 num 4", "if n 0 2", "set o 1", "back y")
        seen = Seen(Facts(BOOK, module, spots(BOOK, module)))
        self.assertEqual(seen.ahead(0, 2), (0, 3))
        # Behind e row 0 the cell n is seen by f.
        self.assertEqual(seen.ahead(0, 0), (3,))
        self.assertEqual(seen.ahead(1, 0), (0, 3))
        self.assertEqual(seen.ahead(1, 2), (0, 3))

    def test_calls(self):
        module = module_of(
            "room 0", "secret n num 4", "out g num 4 num 4", "entry e x num 4 num 4", "local t num 4", "local u num 4", "local v num 4",
            "call t g x", "add u 1", "if n 0 1", "call x g u", "back t")
        every = spots(BOOK, module)
        seen = Seen(Facts(BOOK, module, every))
        # Variables: n, x, t, u, v.
        self.assertEqual(seen.ahead(0, 4), (0, 2))
        self.assertEqual(seen.ahead(0, 3), (0, 2, 3))
        self.assertEqual(seen.ahead(0, 0), (0, 1, 3))
        self.assertEqual(kept_names(BOOK, module, every), ((3,), (2,)))
        bare = [spot for spot in every if spot != ("frame", "g")]
        self.assertEqual(kept_names(BOOK, module, bare), (None, None))
        self.assertEqual(Seen(Facts(BOOK, module, bare)).ahead(0, 3), (0, 1, 2, 3, 4))
        unwiped = Seen(Facts(BOOK, module, [spot for spot in every if spot != ("wipe", "g")]))
        self.assertEqual(unwiped.ahead(0, 0), (-3, -2, -1, 0, 1, 3))

    def test_calls_that_are_not_reached(self):
        module = module_of(
            "room 0", "out g num 4 num 4", "out h num 4 num 4", "entry e x num 4 num 4", "local t num 4", "go 4", "call x g t", "back t", "go 1",
            "call x h x", "back x")
        for guards in ([("frame", "g"), ("frame", "h")], [("frame", "g"), ("frame", "h"), ("idle", "")]):
            self.assertEqual(kept_names(BOOK, module, guards), ((), ()))
        self.assertEqual(kept_names(BOOK, module, [("frame", "g")]), ((), None))
        # With a bare idle somebody comes behind call 0 all the same: what is seen there is told.
        seen = Seen(Facts(BOOK, module, [("frame", "g"), ("wipe", "e"), ("wipe", "g"), ("wipe", "h")]))
        self.assertEqual(seen.ahead(0, 2), (1,))
        self.assertIsNone(seen.ahead(0, 1))

    def test_rows_that_lead_nowhere(self):
        module = module_of("class box 4", "room 0", "entry e x num 4 num 4", "local b thing box", "make b box x", "back x", "entry f y num 4 num 4",
                           "local b thing box", "read y b", "back y", "entry h z num 4 num 4", "local b thing box", "write b z", "back z")
        seen = Seen(Facts(BOOK, module, ()))
        self.assertEqual([seen.ahead(entry, 0) for entry in range(3)], [(0,), (1,), (0, 1)])
        self.assertEqual([seen.ahead(entry, 1) for entry in range(3)], [None] * 3)

    def test_wrong_arguments(self):
        module = module_of("room 0", "entry e x num 4 num 4", "back x")
        self.assertEqual(kept_names(book=BOOK, module=module, guards=[]), ())
        for value in values():
            if not isinstance(value, Book):
                self.assertEqual(caught(InvalidBook, kept_names, value, None, None), "book")
            if not isinstance(value, Module):
                self.assertEqual(caught(InvalidModule, kept_names, BOOK, value, None), ("module",))
            if value not in ((), []):
                caught(InvalidSpots, kept_names, BOOK, module, value)
        self.assertEqual(caught(InvalidModule, kept_names, Book(5, False, 0, False, False), module, None), ("entries", 0))
        self.assertEqual(caught(InvalidSpots, kept_names, BOOK, module, [("wipe", "e"), ("wipe", "e")]), 1)


class Random(unittest.TestCase):
    def test_against_slow_sets(self):
        rng = random.Random(22)
        for _ in range(250):
            book = random_book(rng)
            module = random_guest(rng, book, random_doors(rng, book), rows=9)
            guards = random_guards(rng, book, module)
            facts = Facts(book, module, guards)
            seen, slow = Seen(facts), Slow(facts)
            for at, steps in enumerate(module.steps):
                for row in range(len(steps)):
                    told = slow.sets.get((at, row))
                    self.assertEqual(seen.ahead(at, row), None if told is None else tuple(sorted(told)))
            wanted = []
            for number, (entry, row) in enumerate(module.calls()):
                if ("frame", module.outs[module.steps[entry][row][2]][0]) not in guards:
                    wanted.append(None)
                elif facts.words_at(entry, row) is None:
                    wanted.append(())
                else:
                    wanted.append(tuple(sorted(v for v in slow.behind_call(number) if v >= len(module.cells))))
            self.assertEqual(kept_names(book, module, list(guards[::-1])), tuple(wanted))

    def test_what_is_not_seen_may_change(self):
        rng = random.Random(23)
        changed = 0
        for _ in range(500):
            book = random_book(rng)
            module = random_guest(rng, book, random_doors(rng, book), rows=8)
            guards = random_guards(rng, book, module)
            facts, code = Facts(book, module, guards), compiled(book, module, guards)
            seen = Seen(facts)
            secrets = rng.choice(module.all_secrets())
            script, sights, room = [], [], first_room(code, secrets)
            while room is not None and len(script) < 6:
                script.append(random_deed(rng, code, room))
                sight, room = entered(code, room, script[-1])
                sights.append(sight)
            for _ in range(5):
                meddler = Meddler(rng, book, module, guards, secrets, facts, seen)
                self.assertEqual([meddler.deed(deed)[0] for deed in script], sights)
                changed += meddler.changed
        self.assertGreater(changed, 300)


class Meddler(Wide):
    """Changes, now and then, what nobody can see any more, to another word that the facts let."""

    def __init__(self, rng, book, module, guards, secrets, facts, seen):
        super().__init__(book, module, guards, secrets)
        self.rng, self.facts, self.seen, self.changed = rng, facts, seen, 0

    def rows(self, entry, row, frame):
        seen = set()
        while True:
            self.meddle(entry, row, frame)
            now = row, tuple(self.cells), tuple(frame), tuple(self.things), len(self.met)
            if now in seen or len(self.met) > 3000:
                raise Never
            seen.add(now)
            held = self.cells + frame
            self.met.append(None)
            step = self.module.steps[entry][row]
            if step[0] == "back":
                return self.leaves(entry, self.module.entries[entry][0], self.module.entries[entry][3], held[step[1]])
            if step[0] == "call":
                name, kind, _ = self.module.outs[step[2]]
                return self.leaves_by_call(entry, row, name, kind, held[step[3]], frame)
            row = self.row(step, row, held, frame)

    def meddle(self, entry, row, frame):
        if self.rng.random() < 0.7:
            return
        words, seen = self.facts.words_at(entry, row), self.seen.ahead(entry, row)
        for at in range(len(self.cells) + len(frame)):
            if at not in seen:
                word = self.rng.choice(words[at])
                self.changed += word != (self.cells + frame)[at]
                self.put(frame, at, word)
        for at in (-1, -2):
            if at not in seen:
                self.regs[-1 - at] = self.rng.choice(words[len(self.cells) + len(frame) - 1 - at])
        if -3 not in seen:
            self.flag = self.rng.choice(words[-1])


if __name__ == "__main__":
    unittest.main()
