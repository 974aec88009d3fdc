"""[34] The way back: surroundings made of a stranger's script."""

import random
import unittest

from nomoreseen.back import around_for
from nomoreseen.books import fits_around, is_around
from nomoreseen.compiler import compiled
from nomoreseen.errors import InvalidBook, InvalidModule, InvalidScript, InvalidSecrets, Refused
from nomoreseen.linked import own_run
from nomoreseen.modules import Book, Module
from nomoreseen.piles import deep_play
from nomoreseen.sights import due_sights, sights
from nomoreseen.spots import bites, spots_of
from nomoreseen.wide import honest_script
from tests import makers
from tests.anything import caught, values
from tests.scripts import random_script
from tests.test_machine import module_of
from tests.test_sights import WRONG

NEVER = (("never",),)
BOOK = Book(4, True, 2, True, False)
GUEST = module_of("room 0", "secret s num 2", "entry e x num 2 num 2", "back x", "entry f x num 2 num 2", "back s", "entry h x num 2 num 2",
                  "if s 0 2", "go 1", "back x", "entry n x num 2 num 2", "go 0")


def due(book, guest, secrets, script):
    """The due sights up to the first never."""
    for at in range(len(script) + 1):
        told = due_sights(book, guest, secrets, script[:at])
        if NEVER in told:
            break
    return told


class Ways(unittest.TestCase):
    def check(self, book, guests, pair, script):
        """What is told of a script, against what is due to be seen of it."""
        told = [due(book, guest, secrets, script) for guest, secrets in zip(guests, pair)]
        unlike = [at for at, (one, other) in enumerate(zip(*told)) if one != other]
        if not unlike and len(told[0]) < len(script):
            self.assertEqual(caught(Refused, around_for, book, *guests, *pair, script), len(told[0]))
            return None
        found = around_for(book, *guests, *pair, script)
        if not unlike:
            self.assertIsNone(found)
            return None
        around, which = found
        self.assertIsNone(fits_around(book, around))
        many = len(script)
        for at, guest in enumerate(guests):
            self.assertTrue(is_around(guest, around))
            self.assertEqual(own_run(book, guest, around, pair[at], many) == "shows", at == which)
            self.assertEqual(own_run(book, guest, around, pair[at], 1000) == "shows", at == which)
        self.assertEqual(around_for(book, *guests, *pair, script[:unlike[0] + 1])[1], which)
        return which

    def test_random_guests(self):
        rng = random.Random(34)
        found = {0: 0, 1: 0, None: 0, "long": 0, "foreign": 0}
        for _ in range(1500):
            book = makers.random_book(rng)
            one = makers.random_guest(rng, book, makers.random_doors(rng, book))
            other = makers.mutant(rng, one)
            guests = [one, other] if rng.random() < 0.8 else [one, one]
            pair = [rng.choice(guest.all_secrets()) for guest in guests]
            play, _ = makers.random_play(rng, book, one, pair[0], 5)
            script = honest_script(book, one, spots_of(book, one, bites(book)), pair[0], play[::2])
            if rng.random() < 0.3:
                script = random_script(rng, compiled(book, one, spots_of(book, one, bites(book))), pair[0], 5)
            elif rng.random() < 0.5:
                parting = deep_play(book, *guests, *pair)
                if parting is not None and len(parting) <= 5:
                    script = honest_script(book, one, spots_of(book, one, bites(book)), pair[0], parting)
            which = self.check(book, guests, pair, script)
            found[which] += 1
            found["long"] += which is not None and len(script) > 1
            found["foreign"] += which is not None and len(one.foreign) > 0
        self.assertGreater(min(found.values()), 20, found)

    def test_strangers_of_quiet_codes(self):
        # What parts two codes with all guards that bite is turned into surroundings.
        rng = random.Random(35)
        turned = 0
        for _ in range(400):
            book = makers.random_book(rng)
            one = makers.random_guest(rng, book, makers.random_doors(rng, book))
            other, secrets = makers.mutant(rng, one), rng.choice(one.all_secrets())
            if secrets not in other.all_secrets():
                continue
            codes = [compiled(book, guest, spots_of(book, guest, bites(book))) for guest in (one, other)]
            script = random_script(rng, codes[0], secrets, 5)
            for at in range(len(script)):
                if sights(codes[0], secrets, script[:at + 1]) != sights(codes[1], secrets, script[:at + 1]):
                    script = script[:at + 1]
                    self.assertIsNotNone(self.check(book, (one, other), (secrets, secrets), script))
                    turned += 1
                    break
            else:
                self.assertIsNone(around_for(book, one, other, secrets, secrets, script))
        self.assertGreater(turned, 40)

    def test_by_hand(self):
        script = (("call", "e", 1, ()), ("call", "f", 0, ()))
        around, which = around_for(book=BOOK, one=GUEST, other=GUEST, secrets=[0], others=[1], script=[list(deed) for deed in script])
        self.assertEqual((which, own_run(BOOK, GUEST, around, (0,), 2), own_run(BOOK, GUEST, around, (1,), 2)), (0, "shows", "never"))
        self.assertIsNone(around_for(BOOK, GUEST, GUEST, (0,), (1,), script[:1]))
        self.assertIsNone(around_for(BOOK, GUEST, GUEST, (0,), (1,), ()))
        self.assertIsNone(around_for(BOOK, GUEST, GUEST, (1,), (1,), script))
        # Of the two one does never: the other one is shown around.
        for pair, which in (((0,), (1,)), 0), (((1,), (0,)), 1):
            self.assertEqual(around_for(BOOK, GUEST, GUEST, *pair, (("call", "h", 0, ()),))[1], which)

    def test_what_stands_behind(self):
        parting, none = ("call", "f", 0, ()), ("call", "e", 3, ())
        for behind in ((none, none, none), (parting, ("back", 0, ())), (("call", "n", 0, ()), parting)):
            self.assertEqual(around_for(BOOK, GUEST, GUEST, (0,), (1,), (parting,) + behind)[1], 0)
        self.assertIsNone(around_for(BOOK, GUEST, GUEST, (0,), (1,), (none,)))
        self.assertIsNone(around_for(BOOK, GUEST, GUEST, (0,), (1,), (("call", "n", 0, ()),)))
        for first in (none, ("call", "n", 0, ()), ("back", 0, ())):
            self.assertEqual(caught(Refused, around_for, BOOK, GUEST, GUEST, (0,), (1,), (("call", "e", 0, ()), first, parting, parting)), 2)

    def test_errors_in_their_order(self):
        unlike = module_of("room 0", "entry e x num 2 num 2", "back x")
        classes = [module_of(f"class {name} 4", "room 0", "entry e x num 4 num 4", "back x") for name in ("box", "jar")]
        for value in values():
            if not isinstance(value, Book):
                self.assertEqual(caught(InvalidBook, around_for, value, None, None, None, None, None), "book")
            if not isinstance(value, Module):
                self.assertEqual(caught(InvalidModule, around_for, BOOK, value, None, None, None, None), ("module",))
                self.assertEqual(caught(InvalidModule, around_for, BOOK, GUEST, value, None, None, None), ("module",))
            if repr(value) not in ("0,", "(0,)", "[0]"):
                self.assertEqual(caught(InvalidSecrets, around_for, BOOK, GUEST, GUEST, value, None, None), 0)
                self.assertEqual(caught(InvalidSecrets, around_for, BOOK, GUEST, GUEST, (1,), value, None), 1)
            if not isinstance(value, (list, tuple)):
                self.assertEqual(caught(InvalidScript, around_for, BOOK, GUEST, GUEST, (0,), (1,), value), -1)
        self.assertEqual(caught(InvalidModule, around_for, BOOK, GUEST, unlike, None, None, None), ("entries", -1))
        self.assertEqual(caught(InvalidModule, around_for, BOOK, *classes, None, None, None), ("classes", -1))
        self.assertEqual(caught(InvalidModule, around_for, Book(4, False, 0, False, False), GUEST, None, None, None, None), ("cells", 0))
        # The whole script is looked at, also behind the deed at which they part.
        for wrong in WRONG + values():
            self.assertEqual(caught(InvalidScript, around_for, BOOK, GUEST, GUEST, (0,), (1,), (("call", "f", 0, ()), ("back", 0, ()), wrong)), 2)


if __name__ == "__main__":
    unittest.main()
