"""[48], [49] Scripts that part two programs on the machine, all pairs of machines, and drawings of the three guards."""

import random
import unittest

from nomoreseen.compiler import compiled
from nomoreseen.errors import InvalidLink, InvalidLots, InvalidSecrets, InvalidSize, InvalidSpots
from nomoreseen.falls import fallen_sights
from nomoreseen.hearing import rest_pairs, rest_parting
from nomoreseen.linker import Program
from nomoreseen.machine import entered, first_room
from nomoreseen.modules import Book
from nomoreseen.spots import spots
from nomoreseen.strikes import drawing, drawing_holds, fallen_pairs, fallen_pairs_hold, fallen_parting
from tests.anything import caught, values
from tests.naive_switch import Mirror, all_deeds, seen_of, slow_parting
from tests.programs import random_fallen, random_program, random_secrets
from tests.test_compiler import variations
from tests.test_falls import GUARDS, NET, NONE
from tests.test_hearing import changed_program
from tests.test_rests import PROGRAM, SECRETS, part

NEVER = ("never",)
LOTS = ((), ("who",), ("backof",), ("turn",), ("who", "backof"), ("turn", "who", "backof"))


def at_machine(program, fallen, bare, machine):
    """A mirror that stands at this machine."""
    mirror = Mirror(program, fallen, [None if module.name in fallen else (0,) * len(module.secret_cells()) for module in program.modules], bare)
    mirror.pile = list(machine[0])
    mirror.rooms = {module.name: room for module, room in zip(program.modules, machine[1]) if room is not None}
    return mirror


def is_closed(programs, fallen, pair, bare, value):
    """Whether pairs of machines that are such by their form are closed, and all seen alike."""
    known = set(value)
    first = [Mirror(program, fallen, secrets, bare) for program, secrets in zip(programs, pair)]
    if first[0].begin() != first[1].begin():
        return False
    machines = tuple(mirror.machine() for mirror in first)
    if None not in machines and machines not in known:
        return False
    for told in known:
        for deed in all_deeds(programs[0], fallen):
            mirrors = [at_machine(program, fallen, bare, machine) for program, machine in zip(programs, told)]
            if mirrors[0].deed(deed) != mirrors[1].deed(deed):
                return False
            machines = tuple(mirror.machine() for mirror in mirrors)
            if None not in machines and machines not in known:
                return False
    return True


class Parting(unittest.TestCase):
    def test_random_programs(self):
        rng = random.Random(480)
        found = {0: 0, 1: 0, 2: 0, "late": 0, None: 0, "pairs": 0, "machine": 0}
        for _ in range(250):
            program = random_program(rng)
            other = changed_program(rng, program) if rng.random() < 0.6 else program
            if other is None:
                continue
            fallen, secrets = random_fallen(rng, program), random_secrets(rng, program)
            others = random_secrets(rng, program) if rng.random() < 0.6 else secrets
            bare = rng.choice(LOTS + LOTS[:1] * 4)
            told = (program, other, fallen, secrets, others, bare)
            try:
                script = fallen_parting(*told)
                pairs = fallen_pairs(*told)
            except InvalidSize as error:
                self.assertEqual(error.word, "states")
                self.assertTrue(bare)
                continue
            self.assertEqual((script is None) + (pairs is None), 1)
            # With all guards they part just if lawful moves do.
            if not bare:
                self.assertEqual(script is None, rest_parting(program, other, fallen, secrets, others) is None)
            found["machine"] += script is not None and rest_parting(program, other, fallen, secrets, others) is None
            many = slow_parting((program, other), fallen, (secrets, others), bare, 1 if len(program.links) > 2 else 2)
            if script is None:
                found[None] += 1
                self.assertIn(many, (None, "long"))
                found["pairs"] += len(pairs) > 1
                if len(pairs) < 10:
                    self.assertTrue(is_closed((program, other), fallen, (secrets, others), bare, pairs))
                self.assertTrue(fallen_pairs_hold(*told, pairs))
                self.check_first(program, other, fallen, secrets, others, bare, pairs)
                continue
            self.assertEqual(many if many != "long" else len(script), len(script))
            found[min(len(script), 2)] += 1
            seen = [seen_of(one, fallen, known, bare, script) for one, known in ((program, secrets), (other, others))]
            self.assertEqual((seen[0][:-1], seen[0][-1] == seen[1][-1], len(seen[0])), (seen[1][:-1], False, len(script) + (program.main[0] not in fallen)))
            found["late"] += len(script) > 1
        self.assertGreater(min(found[1], found[None], found["pairs"]), 5, found)
        self.assertGreater(found["late"] + found["machine"], 0, found)

    def check_first(self, program, other, fallen, secrets, others, bare, pairs):
        """The first pair is that behind the beginning; if all has ended there is none."""
        mirrors = [Mirror(one, fallen, known, bare) for one, known in ((program, secrets), (other, others))]
        for mirror in mirrors:
            mirror.begin()
        if mirrors[0].over:
            self.assertEqual(pairs, ())
        else:
            self.assertEqual(pairs[0], tuple(mirror.machine() for mirror in mirrors))
        self.assertEqual(len(pairs), len(set(pairs)))

    def test_by_hand(self):
        other = changed(NET, 2, "copy n x", "set n 0")
        told = (NET, other, ("a", "f"), NONE, NONE)
        self.assertIsNone(fallen_parting(*told, ()))
        self.assertEqual(len(fallen_parting(*told, ("who",))), 2)
        self.assertEqual(fallen_parting(*told, ("turn",)), (("a", "call", 0, 0), ("a", "call", 3, 0)))
        self.assertEqual(len(fallen_parting(*told, ["backof"])), 3)
        self.assertIsNone(fallen_pairs(*told, ("turn",)))
        self.assertFalse(fallen_pairs_hold(*told, ("turn",), fallen_pairs(*told, ())))
        pairs = fallen_pairs(program=NET, other=other, fallen=["a", "f"], secrets=[[], [], [], []], others=NONE, bare=[])
        self.assertEqual(pairs[0], (((), (None, *[first_room(compiled(NET.book, m, ()), ()) for m in NET.modules[1:3]], None)),) * 2)
        # The beginnings.
        self.assertEqual(fallen_parting(NET, other, ("c",), NONE, NONE, ()), None)
        bent = changed(NET, 0, "call x o x", "call x s x")
        self.assertEqual((fallen_parting(NET, bent, ("c",), NONE, NONE, ()), fallen_pairs(NET, bent, ("c",), NONE, NONE, ())), ((), None))
        self.assertFalse(fallen_pairs_hold(NET, bent, ("c",), NONE, NONE, (), ()))

    def test_all_has_ended(self):
        plain = Program(NET.book, (part("a", "out o num 3 num 3", "entry run x num 3 num 3", "back x", "call x o x", "back x"), part(
            "b", "entry e x num 3 num 3", "back x")), (("a", "o", "b", "e"),), ("a", "run"))
        told = (plain, plain, ("b",), ((), ()), ((), ()), ())
        self.assertEqual((fallen_parting(*told), fallen_pairs(*told)), (None, ()))
        self.assertTrue(fallen_pairs_hold(*told, ()))

    def test_piles_that_grow(self):
        # Without who b calls along its own link for ever: that may be too much, but never if they part.
        told = (NET, NET, ("a", "b", "f"), NONE, NONE, ("who",))
        with self.assertRaises(InvalidSize) as caught_error:
            fallen_pairs(*told)
        self.assertEqual(caught_error.exception.word, "states")
        self.assertFalse(fallen_pairs_hold(*told, ()))
        other = changed(NET, 2, "back n", "back x")
        self.assertIsNotNone(fallen_parting(NET, other, ("a", "b", "f"), NONE, NONE, ("who",)))


def changed(program, at, row, instead):
    """The program with another row in a module, the rows told as lines."""
    modules = list(program.modules)
    entries = [entry[:5] + (tuple(tuple(instead.split()) if " ".join(map(str, told)) == row else told for told in entry[5]),) for entry in modules[at].entries]
    entries = [entry[:5] + (tuple(tuple(int(word) if word in ("0", "1", "2") else word for word in told) for told in entry[5]),) for entry in entries]
    modules[at] = type(modules[at])(*modules[at].told[:6], entries)
    return Program(program.book, modules, program.links, program.main)


class Judge(unittest.TestCase):
    def test_bent_pairs(self):
        rng = random.Random(481)
        other = changed(NET, 2, "copy n x", "set n 0")
        for fallen, bare in ((("a", "f"), ()), (("f",), ()), (("a", "b"), ())):
            told = (NET, other if fallen == ("a", "f") else NET, fallen, NONE, NONE, bare)
            pairs = fallen_pairs(*told)
            held = 0
            for bent in variations(pairs, rng, 120):
                right = self.is_formed(told, bent) and is_closed(told[:2], fallen, (NONE, NONE), bare, bent)
                self.assertEqual(fallen_pairs_hold(*told, bent), right, bent)
                held += right
            self.assertGreater(held, 0)
            for less in range(len(pairs)):
                self.assertFalse(fallen_pairs_hold(*told, pairs[:less] + pairs[less + 1:]))
            self.assertTrue(fallen_pairs_hold(*told, pairs[::-1] + pairs))
            self.assertFalse(fallen_pairs_hold(*told, list(pairs)))
            self.assertFalse(fallen_pairs_hold(*told, tuple(list(pair) for pair in pairs)))

    def is_formed(self, told, value):
        """Whether these are pairs of machines in tuples throughout."""
        if "[" in repr(value) or type(value) is not tuple:
            return False
        program, _, fallen = told[:3]
        for pair in value:
            if type(pair) is not tuple or len(pair) != 2:
                return False
            for machine in pair:
                if type(machine) is not tuple or len(machine) != 2 or type(machine[0]) is not tuple or type(machine[1]) is not tuple:
                    return False
                if any(type(link) is not int or not 0 <= link < len(program.links) for link in machine[0]) or len(machine[1]) != len(program.modules):
                    return False
                for module, room in zip(program.modules, machine[1]):
                    if (room is None) != (module.name in fallen):
                        return False
                    if room is not None:
                        try:
                            entered(compiled(program.book, module, spots(program.book, module)), room, ("back", 0, ()))
                        except Exception:
                            return False
        return True

    def test_more_than_comes(self):
        # Machines that never come may stand there, if just known ones come of them.
        told = (NET, NET, ("a", "f"), NONE, NONE, ())
        pairs = fallen_pairs(*told)
        odd = tuple(((2, 2, 0) + pile, rooms) for pile, rooms in pairs[0])
        closed = is_closed(told[:2], told[2], (NONE, NONE), (), pairs + ((odd[0], odd[1]),))
        self.assertEqual(fallen_pairs_hold(*told, pairs + ((odd[0], odd[1]),)), closed)
        rooms = pairs[0][0][1]
        bent = ((), (None, rooms[1], ((2,), (), (), (), ()), None))
        for pair in ((bent, bent), (bent, pairs[0][1])):
            closed = is_closed(told[:2], told[2], (NONE, NONE), (), pairs + (pair,))
            self.assertEqual(fallen_pairs_hold(*told, pairs + (pair,)), closed)

    def test_any_values(self):
        told = (NET, NET, ("a", "f"), NONE, NONE, ())
        pairs = fallen_pairs(*told)
        for value in values():
            self.assertFalse(fallen_pairs_hold(*told, value))
            self.assertFalse(fallen_pairs_hold(*told, pairs + (value,)))
            self.assertFalse(fallen_pairs_hold(*told, pairs + ((value, pairs[0][1]),)))
            if type(value) is not tuple or value not in ((), (0,), (1, 2), (0, 0, 0)):
                self.assertFalse(fallen_pairs_hold(*told, pairs + ((pairs[0][0], (value, pairs[0][1][1])),)))
                self.assertFalse(fallen_pairs_hold(*told, pairs + (((value, pairs[0][0][1]), pairs[0][1]),)))
        self.assertTrue(fallen_pairs_hold(program=NET, other=NET, fallen=["a", "f"], secrets=NONE, others=NONE, bare=[], value=pairs))

    def test_errors_in_their_order(self):
        unlike = Program(NET.book, NET.modules, NET.links[::-1], NET.main)
        for call, rest in ((fallen_parting, ()), (fallen_pairs, ()), (fallen_pairs_hold, (None,))):
            for value in values():
                if not isinstance(value, Program):
                    self.assertEqual(caught(InvalidLink, call, value, None, None, None, None, None, *rest), -1)
                    self.assertEqual(caught(InvalidLink, call, NET, value, None, None, None, None, *rest), -1)
                if not isinstance(value, (list, tuple)):
                    self.assertEqual(caught(InvalidLots, call, NET, NET, value, None, None, None, *rest), -1)
                    self.assertEqual(caught(InvalidSecrets, call, NET, NET, ("a",), value, None, None, *rest), -1)
                    self.assertEqual(caught(InvalidSecrets, call, NET, NET, ("a",), NONE, value, None, *rest), -1)
                    self.assertEqual(caught(InvalidSpots, call, NET, NET, ("a",), NONE, NONE, value, *rest), -1)
                self.assertEqual(caught(InvalidSpots, call, NET, NET, ("a",), NONE, NONE, ("who", value), *rest), 1)
            self.assertEqual(caught(InvalidLink, call, NET, unlike, None, None, None, None, *rest), -1)
            self.assertEqual(caught(InvalidLink, call, NET, PROGRAM, None, None, None, None, *rest), -1)
            self.assertEqual(caught(InvalidLots, call, NET, NET, ("a", "z"), None, None, None, *rest), 1)
            self.assertEqual(caught(InvalidSecrets, call, PROGRAM, PROGRAM, ("right",), SECRETS, (SECRETS[0], (3,), None, ()), None, *rest), 1)
            self.assertEqual(caught(InvalidSpots, call, NET, NET, ("a",), NONE, NONE, ("who", "who"), *rest), 1)


class Drawings(unittest.TestCase):
    def test_each_guard(self):
        for guard in GUARDS:
            told = drawing(guard=guard)
            program, other, fallen, script = told
            self.assertTrue(drawing_holds(guard=guard, value=told))
            self.assertIsNone(rest_parting(program, other, fallen, NONE, NONE))
            self.assertLessEqual(len(rest_pairs(program, other, fallen, NONE, NONE)), 150)
            self.assertEqual((program.book.word, len(script) <= 5), (3, True))
            for one in (program, other):
                self.assertLessEqual(len(one.modules), 4)
                for module in one.modules:
                    self.assertLessEqual((len(module.cells), len(module.entries)), (2, 3))
                    kinds = [cell[1] for cell in module.cells] + [kind for out in module.outs for kind in out[1:]]
                    for entry in module.entries:
                        self.assertTrue(len(entry[4]) <= 2 and len(entry[5]) <= 6)
                        kinds += [entry[2], entry[3]] + [kind for _, kind in entry[4]]
                    self.assertEqual(set(kinds), {("num", 3)})
                    self.assertEqual(module.secret_cells(), ())
            unlike = [seen_of(one, fallen, NONE, (guard,), script) for one in (program, other)]
            alike = [seen_of(one, fallen, NONE, (), script) for one in (program, other)]
            self.assertEqual((unlike[0] == unlike[1], alike[0] == alike[1]), (False, True))
            self.assertEqual(fallen_sights(program, fallen, NONE, (guard,), script), unlike[0])

    def test_bent_drawings(self):
        for guard in GUARDS:
            told = drawing(guard)
            program, other, fallen, script = told
            for bent in [
                list(told), told[:3], told + ((),), (program, other, list(fallen), script), (program, other, fallen, list(script)),
                (program, other, fallen, tuple(map(list, script))), (program, other, fallen, ()), (program, program, fallen, script),
                (program, other, fallen[:1] * 2, script), (program, other, (), script), (program, other, ("a", "b", "c", "f"), script), (program, NET, fallen, script),
                (program, other, fallen, script[:-1]), (program, other, fallen, script + (None,)), (program, other, fallen, script + (("b", "call", 0, 0),)),
                (None, other, fallen, script), (program, 0, fallen, script), (program.told, other.told, fallen, script),
            ]:
                self.assertFalse(drawing_holds(guard, bent), (guard, bent))
            # Turned about, with more deeds behind the end, in another order of the fallen: it holds.
            self.assertTrue(drawing_holds(guard, (other, program, fallen, script)))
            self.assertTrue(drawing_holds(guard, (program, other, fallen[::-1], script)))
            self.assertTrue(drawing_holds(guard, (program, other, fallen, script + script)))
            for value in values():
                self.assertFalse(drawing_holds(guard, value))
                self.assertFalse(drawing_holds(guard, (value, other, fallen, script)))
                self.assertFalse(drawing_holds(guard, (program, value, fallen, script)))
                self.assertFalse(drawing_holds(guard, (program, other, value, script)))
                self.assertFalse(drawing_holds(guard, (program, other, fallen, value)))
                self.assertFalse(drawing_holds(guard, (program, other, fallen, (value,))))
        for guard, other in (("who", "turn"), ("turn", "who"), ("backof", "turn"), ("turn", "backof"), ("who", "backof"), ("backof", "who")):
            self.assertFalse(drawing_holds(guard, drawing(other)))

    def test_other_programs(self):
        # These part in the language, or have a secret: no drawing.
        program, other, fallen, script = drawing("turn")
        self.assertEqual(drawing_holds("turn", (NET, changed(NET, 2, "copy n x", "set n 0"), fallen, (("a", "call", 0, 0), ("a", "call", 3, 0)))), True)
        parted = changed(NET, 1, "call z p z", "call t p t")
        self.assertIsNotNone(rest_parting(NET, parted, fallen, NONE, NONE))
        self.assertFalse(drawing_holds("turn", (NET, parted, fallen, script)))
        secret = [Program(one.book, [*one.modules[:2], type(one.modules[2])(
            "c", (), 0, (), [("n", ("num", 3), True)], (), one.modules[2].entries), one.modules[3]], one.links, one.main) for one in (program, other)]
        self.assertFalse(drawing_holds("turn", (*secret, fallen, script)))
        wide = Book(4, True, 0, True, False)
        widened = [Program(wide, one.modules, one.links, one.main) for one in (program, other)]
        self.assertTrue(drawing_holds("turn", (*widened, fallen, script)))

    def test_wrong_guards(self):
        for value in values() + ["Who", "wipe", ("who",), ["turn"], "who "]:
            self.assertEqual(caught(InvalidSpots, drawing, value), 0)
            self.assertEqual(caught(InvalidSpots, drawing_holds, value, None), 0)


if __name__ == "__main__":
    unittest.main()
