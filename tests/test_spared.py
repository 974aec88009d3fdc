"""[22], [23] Rows moved and guards spared, and what becomes of it if it is done carelessly."""

import itertools
import random
import unittest

from nomoreseen.compiler import compiled
from nomoreseen.edges import Facts
from nomoreseen.errors import InvalidBook, InvalidModule, InvalidSize, InvalidSpots, NoName
from nomoreseen.machine import first_room, ticked
from nomoreseen.modules import Book, Module
from nomoreseen.seen import Seen
from nomoreseen.sights import sights
from nomoreseen.spared import EDGES, careless, edge_pair, spare_round, spared
from nomoreseen.spots import spots
from nomoreseen.texts import module_text
from tests import makers
from tests.anything import MODULE, caught, values
from tests.scripts import random_deed, random_guards
from tests.test_machine import module_of

BOOK = Book(4, True, 2, True, False)
HEAD = ("class box 4", "room 2", "cell n num 4", "cell b thing box", "out g num 4 num 4")


def rows_of(module, entry=0):
    return [" ".join(map(str, row)) for row in module.entries[entry][5]]


def all_books():
    for word, narrow, things, (outs, inside) in itertools.product(
            (3, 4, 5, 16), (False, True), (0, 1, 2), ((False, False), (True, False), (True, True))):
        yield Book(word, narrow, things, outs, inside)


def slow_round(book, module, guards):
    """The five steps once more, from the words of the document."""
    lot = tuple(spot for spot in spots(book, module) if spot in guards)

    def anew(rows):
        return Module(*module.told[:6], [entry[:5] + (told,) for entry, told in zip(module.entries, rows)])

    def each(change):
        facts = Facts(book, module, lot)
        seen = Seen(facts)
        return anew([[change(facts, seen, e, r) or row for r, row in enumerate(entry[5])] for e, entry in enumerate(module.entries)])

    def one(facts, seen, e, r):
        words = facts.words_at(e, r)
        if words is None:
            return None
        row, step = module.entries[e][5][r], module.steps[e][r]
        names = [name for name, _ in module.variables(module.entries[e][0])]
        kinds = dict(module.variables(module.entries[e][0]))
        w = dict(zip(names, words))
        things = {"read": lambda: w[row[2]], "write": lambda: w[row[1]]}
        if row[0] in things and w[row[2 if row[0] == "read" else 1]] == (0,) or row[0] == "make" and module.room == 0:
            return ("go", r)
        if row[0] == "if":
            ways = ([row[3]] if row[2] in w[row[1]] else []) + ([r + 1] if set(w[row[1]]) - {row[2]} else [])
        elif row[0] == "same":
            ways = [row[3]] if set(w[row[1]]) & set(w[row[2]]) else []
            ways += [r + 1] if row[1] != row[2] and len(set(w[row[1]]) | set(w[row[2]])) > 1 else []
        else:
            ways = []
        if ways and len(set(ways)) == 1:
            behind = seen.ahead(e, ways[0])
            if not set(behind) & ({-1, -3} if row[0] == "if" else {-1, -2, -3}):
                return ("go", ways[0])
        if row[0] in ("set", "copy", "add"):
            hidden = -1 not in seen.ahead(e, r + 1)
            if hidden and (row[0] == "set" and w[row[1]] == (row[2],) or row[0] == "copy" and row[1] == row[2]):
                return ("go", r + 1)
            n = kinds[row[1]][1]
            if row[0] == "copy" and kinds[row[1]][0] == "num" and len(w[row[2]]) == 1 and w[row[2]][0] < n:
                return ("set", row[1], w[row[2]][0])
            if row[0] == "add" and len(w[row[1]]) == 1:
                return ("set", row[1], (w[row[1]][0] + row[2]) % n)
        return None

    def two(facts, seen, e, r):
        row, step = module.entries[e][5][r], module.steps[e][r]
        if facts.words_at(e, r) is None or row[0] not in ("set", "copy", "add"):
            return None
        return None if {step[1], -1} & set(seen.ahead(e, r + 1)) else ("go", r + 1)

    module = each(one)
    module = each(two)
    rows = []
    for entry in module.entries:
        told = []
        for row in entry[5]:
            if row[0] in ("go", "if", "same"):
                way = [row[-1]]
                while entry[5][way[-1]][0] == "go" and way[-1] not in way[:-1]:
                    way.append(entry[5][way[-1]][1])
                row = row[:-1] + (way[0] if entry[5][way[-1]][0] == "go" else way[-1],)
            told.append(row)
        rows.append(told)
    module = anew(rows)
    facts, rows = Facts(book, module, lot), []
    for e, entry in enumerate(module.entries):
        reached = [facts.words_at(e, r) is not None for r in range(len(entry[5]))]
        kept = {}
        for r, row in enumerate(entry[5]):
            if reached[r]:
                if row != ("go", r + 1):
                    kept[r] = row
            elif row[0] == "call" and facts.is_behind(module.calls().index((e, r))):
                kept[r] = row
            elif r and reached[r - 1] and entry[5][r - 1][0] not in ("go", "back"):
                kept[r] = ("go", r)
        new = {r: at for at, r in enumerate(kept)}

        def lead(target):
            return new[min([r for r in kept if r >= target], default=min(kept))]

        rows.append([row[:-1] + (lead(row[-1]),) if row[0] in ("go", "if", "same") else row for row in kept.values()])
    module = anew(rows)
    lot = tuple(spot for spot in lot if spot in spots(book, module))
    facts, left = Facts(book, module, lot), []
    for guard, seam in lot:
        outs = [name for name, _, _ in module.outs]
        if guard == "wipe":
            held = [facts.words_at(e, r)[-3:] for e, steps in enumerate(module.steps) for r, step in enumerate(steps)
                    if facts.words_at(e, r) is not None and (step[0] == "back" and module.entries[e][0] == seam or step[0] == "call" and outs[step[2]] == seam)]
            if all(words == ((0,),) * 3 for words in held):
                continue
        if guard == "alone" and all(facts.words_at(*call) is None for call in module.calls()):
            continue
        if guard == "class":
            kind = module.entries[module.entry_at(seam)][2] if seam not in outs else module.outs[outs.index(seam)][2]
            if not any(facts.handed_out(at) for at, (name, _) in enumerate(module.classes) if name != kind[1]):
                continue
        left.append((guard, seam))
    return module, tuple(left)


class Rounds(unittest.TestCase):
    def round(self, *lines, guards=None, book=BOOK, head=HEAD):
        module = module_of(*head, *lines)
        lot = spots(book, module) if guards is None else guards
        made, left = spare_round(book, module, lot)
        self.assertEqual((made.told[:6], [entry[:5] for entry in made.entries]), (module.told[:6], [entry[:5] for entry in module.entries]))
        return rows_of(made), left

    def test_rows_that_lead_nowhere(self):
        entry = ("entry e x num 4 num 4", "local c thing box")
        for row in ("read x c", "write c x"):
            self.assertEqual(self.round(*entry, row, "back x"), (["go 0"], ()))
        head = ("class box 4", "room 0", "cell n num 4")
        self.assertEqual(self.round(*entry, "make c box x", "back x", head=head)[0], ["go 0"])
        self.assertEqual(self.round(*entry, "make c box x", "back x")[0], ["make c box x", "back x"])

    def test_ifs_that_lead_to_one_row(self):
        entry = ("entry e x num 4 num 4", "local t num 4")
        # t is 0: it jumps; row 1 and 2 are not reached.
        self.assertEqual(self.round(*entry, "if t 0 3", "set x 1", "go 3", "back x")[0], ["go 1", "back x"])
        self.assertEqual(spared(BOOK, module_of(*HEAD, *entry, "if t 0 3", "set x 1", "go 3", "back x"), (("wipe", "e"),))[0].entries[0][5], (("back", "x"),))
        # With the registers bare it stays, and so does a row behind it.
        self.assertEqual(self.round(*entry, "if t 0 3", "set x 1", "go 3", "back x", guards=())[0], ["if t 0 2", "go 1", "back x"])
        self.assertEqual(self.round(*entry, "if t 1 0", "back x")[0], ["back x"])
        # Both ways lead to one row.
        self.assertEqual(self.round(*entry, "if x 0 1", "back x")[0], ["back x"])
        self.assertEqual(self.round(*entry, "if x 0 1", "back x", guards=())[0], ["if x 0 1", "back x"])
        things = ("entry e x num 4 num 4", "local c thing box", "local d thing box")
        self.assertEqual(self.round(*things, "same c d 2", "back x", "back x")[0], ["go 1", "back x"])
        self.assertEqual(self.round(*things, "same c d 2", "set x 1", "back x", guards=())[0], ["same c d 2", "go 1", "back x"])
        self.assertEqual(self.round(*things, "same c b 2", "set x 1", "back x")[0], ["go 1", "back x"])

    def test_numbers(self):
        entry = ("entry e x num 4 num 4", "local t num 4")
        wiped = (("wipe", "e"), ("below", "e"))
        self.assertEqual(self.round(*entry, "set t 0", "back t", guards=wiped[:1])[0], ["back t"])
        self.assertEqual(self.round(*entry, "set t 0", "back t", guards=())[0], ["set t 0", "back t"])
        self.assertEqual(self.round(*entry, "copy x x", "back x", guards=wiped[:1])[0], ["back x"])
        self.assertEqual(self.round(*entry, "copy x x", "back x", guards=())[0], ["copy x x", "back x"])
        self.assertEqual(self.round(*entry, "copy x t", "back x", guards=())[0], ["set x 0", "back x"])
        # A word alone is added to at once; the facts are those ahead of the step.
        self.assertEqual(self.round(*entry, "add t 3", "add t 2", "back t", guards=())[0], ["set t 1", "back t"])
        self.assertEqual(self.round(*entry, "add t 3", "if x 0 3", "add t 2", "back t", guards=())[0], ["set t 3", "if x 0 3", "set t 1", "back t"])
        self.assertEqual(self.round(*entry, "add x 3", "back x", guards=())[0], ["add x 3", "back x"])
        things = ("entry e x num 4 thing box", "local c thing box")
        self.assertEqual(self.round(*things, "copy c c", "back c", guards=())[0], ["copy c c", "back c"])
        # A thing is no number: none is copied as before.
        self.assertEqual(self.round(*things, "copy b c", "back b", guards=())[0], ["copy b c", "back b"])

    def test_words_beyond_the_kind(self):
        # Of the words 0 to 3 only 3 is left, but the kind is below 3: no set can tell it.
        entry = ("entry e x num 3 num 3", "local t num 3", "if x 0 5", "if x 1 5", "if x 2 5", "copy t x", "back t", "back x")
        rows, left = self.round(*entry, head=("room 0",), guards=(("wipe", "e"),))
        self.assertEqual((rows, left), (["if x 0 5", "if x 1 5", "if x 2 5", "copy t x", "back t", "back x"], (("wipe", "e"),)))
        rows, _ = self.round(*entry, head=("room 0",))
        self.assertEqual(rows, ["if x 0 3", "if x 1 3", "go 3", "back x"])
        entry = ("entry e x num 3 num 3", "local t num 3", "if x 0 4", "if x 1 4", "copy t x", "back t", "back x")
        self.assertEqual(self.round(*entry, head=("room 0",))[0], ["if x 0 4", "if x 1 4", "set t 2", "back t", "back x"])

    def test_work_that_nobody_sees(self):
        entry = ("entry e x num 4 num 4", "local t num 4")
        self.assertEqual(self.round(*entry, "set t 2", "copy t x", "add t 1", "back x", guards=(("wipe", "e"),))[0], ["go 1", "back x"])
        self.assertEqual(self.round(*entry, "set t 2", "copy t x", "back x", guards=())[0], ["copy t x", "back x"])
        # A cell is seen at rest only if somebody looks at it.
        self.assertEqual(self.round(*entry, "copy n x", "back x", guards=(("wipe", "e"),))[0], ["back x"])
        looked = ("entry f y num 4 num 4", "if n 3 2", "back y", "go 2")
        self.assertEqual(self.round(*entry, "copy n x", "back x", *looked, guards=(("wipe", "e"),))[0], ["copy n x", "back x"])

    def test_chains_and_rounds_of_gos(self):
        entry = ("entry e x num 4 num 4",)
        self.assertEqual(self.round(*entry, "if x 0 2", "back x", "go 3", "go 4", "go 1")[0], ["if x 0 1", "back x"])
        self.assertEqual(self.round(*entry, "if x 0 2", "back x", "go 3", "go 2")[0], ["if x 0 2", "back x", "go 2"])
        self.assertEqual(self.round(*entry, "if x 0 2", "back x", "go 2")[0], ["if x 0 2", "back x", "go 2"])
        self.assertEqual(self.round(*entry, "go 2", "back x", "go 1")[0], ["back x"])

    def test_rows_that_are_struck(self):
        # Call 0 stays as long as a bare idle lets somebody come behind it; others go.
        lines = ("entry e x num 4 num 4", "back x", "set x 1", "call x g x", "add x 1", "call x g x", "back x")
        self.assertEqual(self.round(*lines)[0], ["back x"])
        module = module_of(*HEAD, *lines)
        bare = [spot for spot in spots(BOOK, module) if spot[0] != "idle"]
        # What comes behind call 0 reaches call 1, too.
        self.assertEqual(self.round(*lines, guards=bare)[0], ["back x", "call x g x", "add x 1", "call x g x", "back x"])
        lines = lines[:4] + ("back x", "call x g x", "back x")
        self.assertEqual(self.round(*lines, guards=bare)[0], ["back x", "call x g x", "back x"])
        # A jump that is never taken leads to row 0, where nothing stays behind its target.
        lines = ("entry e x num 4 num 4", "local t num 4", "if t 1 3", "back x", "back x", "set x 1", "go 3")
        self.assertEqual(self.round(*lines, guards=())[0], ["if t 1 0", "back x"])

    def test_guards_that_go_out(self):
        made = ("entry e x num 4 num 4", "back x")
        self.assertEqual(self.round(*made)[1], ())
        self.assertEqual(self.round("entry e x num 4 num 4", "set n 1", "call x g x", "if n 2 0", "back x"),
                         (["call x g x", "back x"], (("alone", "e"), ("frame", "g"), ("idle", ""))))
        calls = module_of("room 0", "cell n num 4", "out g num 4 num 4", "entry e x num 4 num 4", "add n 1", "call x g x", "if n 2 0", "back x")
        self.assertEqual(spared(BOOK, calls, spots(BOOK, calls))[1], (("alone", "e"), ("frame", "g"), ("wipe", "e"), ("wipe", "g"), ("idle", "")))
        empty = module_of("room 0", "out g num 4 num 4", "entry e x num 4 num 4", "call x g x", "back x")
        self.assertEqual(spared(BOOK, empty, spots(BOOK, empty))[1], (("alone", "e"), ("frame", "g"), ("idle", "")))
        dead = module_of("room 0", "out g num 2 num 2", "entry e x num 2 num 2", "back x", "call x g x", "back x")
        self.assertEqual(spared(BOOK, dead, spots(BOOK, dead))[1], (("below", "e"),))
        taken = ("class box 4", "class jar 4", "room 1", "entry e b thing box thing box", "back b", "entry f j thing jar num 4", "local t num 4", "back t")
        module = module_of(*taken)
        self.assertEqual(spared(BOOK, module, spots(BOOK, module))[1], (("given", "e"), ("given", "f"), ("number", "")))
        module = module_of(*taken, "entry m x num 4 thing jar", "local j thing jar", "make j jar x", "back j")
        # Jars go out: where a box comes in the class is asked for; where a jar does no other thing can come.
        self.assertEqual(spared(BOOK, module, spots(BOOK, module))[1], (
            ("given", "e"), ("given", "f"), ("class", "e"), ("wipe", "m"), ("number", "")))

    def test_against_the_words_of_the_document(self):
        rng = random.Random(220)
        for _ in range(700):
            book = makers.random_book(rng)
            module = makers.random_guest(rng, book, makers.random_doors(rng, book), rows=rng.choice((5, 9)))
            guards = random_guards(rng, book, module)
            made, left = spare_round(book, module, guards)
            slow, slow_left = slow_round(book, module, guards)
            self.assertEqual(made.told, slow.told, module_text(module))
            self.assertEqual(left, slow_left)

    def test_errors_in_their_order(self):
        for call, rest in ((spare_round, ()), (spared, ()), (careless, (None,))):
            for value in values():
                if not isinstance(value, Book):
                    self.assertEqual(caught(InvalidBook, call, value, None, None, *rest), "book")
                if not isinstance(value, Module):
                    self.assertEqual(caught(InvalidModule, call, BOOK, value, None, *rest), ("module",))
                if not isinstance(value, (list, tuple)):
                    self.assertEqual(caught(InvalidSpots, call, BOOK, MODULE, value, *rest), -1)
            self.assertEqual(caught(InvalidModule, call, Book(4, False, 0, False, False), module_of("room 0", "entry e x num 2 num 2", "back x"), None, *rest),
                             ("entries", 0))


class Spared(unittest.TestCase):
    def test_nothing_is_seen_of_it(self):
        rng = random.Random(22)
        gone, changed = {}, 0
        for _ in range(900):
            book = makers.random_book(rng, (3, 4))
            module = makers.random_guest(rng, book, makers.random_doors(rng, book), rows=rng.choice((6, 10)))
            guards = random_guards(rng, book, module)
            made, left = spared(book, module, rng.sample(guards, len(guards)))
            again, left_again = spared(book=book, module=made, guards=list(left))
            self.assertEqual((again.told, left_again), (made.told, left))
            self.assertLessEqual(set(left), set(guards))
            changed += made.told != module.told
            for guard, _ in set(guards) - set(left):
                gone[guard] = gone.get(guard, 0) + 1
            codes = compiled(book, module, guards), compiled(book, made, left)
            for _ in range(3):
                secrets = rng.choice(module.all_secrets())
                rooms = [first_room(code, secrets) for code in codes]
                for _ in range(8):
                    deed = random_deed(rng, codes[0], rooms[0])
                    (sight, ticks, room), (told, fewer, later) = [ticked(code, held, deed) for code, held in zip(codes, rooms)]
                    self.assertEqual(sight, told)
                    if room is None:
                        break
                    self.assertLessEqual(fewer, ticks)
                    rooms = [room, later]
        self.assertGreater(changed, 500)
        self.assertLessEqual({"alone", "wipe", "class", "idle", "frame"}, set(gone))

    def test_rounds_until_nothing_changes(self):
        rng = random.Random(23)
        most = 0
        for _ in range(300):
            book = makers.random_book(rng)
            module = makers.random_guest(rng, book, makers.random_doors(rng, book), rows=9)
            told, many = (module, random_guards(rng, book, module)), 0
            wanted = spared(book, *told)
            while True:
                behind = spare_round(book, *told)
                if (behind[0].told, behind[1]) == (told[0].told, told[1]):
                    break
                told, many = behind, many + 1
            self.assertEqual((wanted[0].told, wanted[1]), (told[0].told, told[1]))
            most = max(most, many)
        self.assertGreater(most, 1)


class Careless(unittest.TestCase):
    def test_as_if_guarded(self):
        rng = random.Random(24)
        for _ in range(300):
            book = makers.random_book(rng)
            module = makers.random_guest(rng, book, makers.random_doors(rng, book))
            guards = random_guards(rng, book, module)
            for kind in EDGES:
                made, left = careless(book, module, guards, kind)
                every = spots(book, module)
                wanted, lot = spared(book, module, [spot for spot in every if spot in guards or spot[0] == kind])
                self.assertEqual((made.told, left), (wanted.told, tuple(spot for spot in lot if spot in guards)))
                if all(spot in guards for spot in every if spot[0] == kind):
                    plain = spared(book, module, guards)
                    self.assertEqual((made.told, left), (plain[0].told, plain[1]))

    def test_names_of_edges(self):
        self.assertEqual(EDGES, ("alone", "below", "class", "frame", "given", "idle", "wipe"))
        for value in values() + ["number", "W", "Wipe", ("wipe",), ["wipe"]]:
            self.assertIs(caught(NoName, careless, BOOK, MODULE_OF_WORD, (), value), value)
            self.assertIs(caught(NoName, edge_pair, BOOK, value), value)
            if not isinstance(value, Book):
                self.assertEqual(caught(InvalidBook, edge_pair, value, value), "book")

    def test_edges_are_real(self):
        bites_at = {"alone": lambda b: b.outs and not b.inside, "below": lambda b: b.narrow, "class": lambda b: b.things == 2, "frame": lambda b: b.outs,
                    "given": lambda b: b.things > 0, "idle": lambda b: b.outs, "wipe": lambda b: True}
        for book in all_books():
            for kind in EDGES:
                if not bites_at[kind](book):
                    self.assertEqual(caught(InvalidSize, edge_pair, book, kind), "kind")
                    continue
                module, lot, script = edge_pair(book=book, kind=kind)
                self.assertLessEqual(sum(len(entry[5]) for entry in module.entries), 10)
                self.assertEqual(module.secret_cells(), ())
                bare = [spot for spot in spots(book, module) if spot not in lot]
                self.assertIn(kind, [guard for guard, _ in bare])
                made, left = careless(book, module, lot, kind)
                self.assertNotEqual(sights(compiled(book, module, lot), (), script), sights(compiled(book, made, left), (), script))
                right = spared(book, module, lot)
                self.assertEqual(sights(compiled(book, module, lot), (), script), sights(compiled(book, *right), (), script))


MODULE_OF_WORD = module_of("room 0", "entry e x num 4 num 4", "back x")

if __name__ == "__main__":
    unittest.main()
