"""[41], [42] Ticks along plays, and the least padding that makes them tell nothing."""

import itertools
import random
import unittest

from nomoreseen.clock import most_padding, padding, ticks_along
from nomoreseen.compiler import compiled
from nomoreseen.errors import InvalidBook, InvalidModule, InvalidPlay, InvalidSecrets, InvalidSize, Refused
from nomoreseen.machine import first_room, ticked
from nomoreseen.modules import Book, Module
from nomoreseen.plain import answered, begin
from nomoreseen.plays import answers
from nomoreseen.secrets import classes
from nomoreseen.spots import spots
from nomoreseen.wide import honest_script
from tests import makers
from tests.anything import caught, values
from tests.test_calm import HAND, INSIDE, MODULE
from tests.test_machine import module_of
from tests.test_secrets import small_guest

PLAY = (("call", "e", 0), ("back", 0))
# Three secrets in one class; 2 takes the longest way. r is shown by the back of f alone.
SLOW = module_of("room 0", "secret s num 3", "secret r num 2", "entry e x num 3 num 3", "if s 0 5", "if s 1 5", "set x 1", "set x 0", "go 5", "set x 0",
                 "back x", "entry f x num 3 num 2", "if r 0 3", "set x 0", "set x 1", "back r", "entry n x num 3 num 3", "go 0")
ALONE = Book(3, True, 0, False, False)


def machine_ticks(book, module, secrets, moves):
    """The ticks of each out-move, by the machine; up to a never."""
    every = spots(book, module)
    code, told = compiled(book, module, every), []
    room = first_room(code, secrets)
    for deed in honest_script(book, module, every, secrets, moves):
        sight, ticks, room = ticked(code, room, deed)
        if room is None:
            break
        told.append(ticks)
    return tuple(told)


def slow_padding(book, module, secrets, moves, so_far):
    mine = answers(book, module, secrets, moves)
    told = machine_ticks(book, module, secrets, moves)
    added = []
    for at in range(len(told)):
        if so_far:
            group = [other for other in module.all_secrets() if alike_up_to(book, module, other, moves[:at + 1], mine)]
        else:
            group = [one for one in classes(book, module) if secrets in one][0]
        added.append(max(machine_ticks(book, module, other, moves[:at + 1])[at] for other in group) - told[at])
    return tuple(added)


def alike_up_to(book, module, secrets, moves, wanted):
    state = begin(module, secrets)
    for move, out in zip(moves, wanted):
        told, state = answered(module, state, move)
        if told != out:
            return False
    return True


def slow_most(book, module, so_far, most):
    """The greatest padding along plays of at most so many moves."""
    found = 0
    for secrets in module.all_secrets():
        layer = [((), begin(module, secrets))]
        for _ in range(most):
            behind = []
            for moves, state in layer:
                for move in makers.lawful_moves(book, module, state):
                    _, after = answered(module, state, move)
                    if after is not None:
                        found = max(found, slow_padding(book, module, secrets, moves + (move,), so_far)[-1])
                        behind.append((moves + (move,), after))
            layer = behind
    return found


class Ticks(unittest.TestCase):
    def test_against_the_machine(self):
        rng = random.Random(41)
        long = 0
        for _ in range(500):
            book = makers.random_book(rng, (3, 4, 5))
            module = makers.random_guest(rng, book, makers.random_doors(rng, book))
            secrets = rng.choice(module.all_secrets())
            play, state = makers.random_play(rng, book, module, secrets, 6)
            moves = play[::2]
            told = ticks_along(book, module, secrets, moves)
            self.assertEqual(told, machine_ticks(book, module, secrets, moves))
            self.assertEqual(len(told), len(moves))
            for move in makers.lawful_moves(book, module, state):
                # Of a never no ticks are told.
                if answered(module, state, move)[0] == ("never",):
                    self.assertEqual(ticks_along(book=book, module=module, secrets=list(secrets), moves=[list(told) for told in moves + (move,)]), told)
                    self.assertEqual(len(padding(book, module, secrets, moves + (move,), True)), len(told))
                    self.assertEqual(caught(Refused, ticks_along, book, module, secrets, moves + (move, move)), len(moves) + 1)
                    break
            long += len(moves) > 3
        self.assertGreater(long, 100)

    def test_by_hand(self):
        # alone, below, store; load, equal, jumpif; load, own, wipe, out.
        self.assertEqual(ticks_along(HAND, MODULE, (0,), PLAY), (10, 7))
        self.assertEqual(ticks_along(HAND, MODULE, (1,), PLAY), (10, 8))
        self.assertEqual(ticks_along(HAND, MODULE, (1,), ()), ())


class Padding(unittest.TestCase):
    def test_by_hand(self):
        self.assertEqual(padding(HAND, MODULE, (0,), PLAY), (0, 1))
        self.assertEqual(padding(HAND, MODULE, (1,), PLAY), (0, 0))
        self.assertEqual(padding(book=HAND, module=MODULE, secrets=[0], moves=[list(move) for move in PLAY], so_far=False), (0, 1))
        self.assertEqual(padding(HAND, MODULE, (0,), PLAY, so_far=True), (0, 1))
        number, (secrets, moves) = most_padding(HAND, MODULE)
        self.assertEqual((number, secrets, padding(HAND, MODULE, secrets, moves)[-1]), (1, (0,), 1))
        self.assertEqual(most_padding(HAND, MODULE, True)[0], 1)

    def test_three_secrets(self):
        moves = (("call", "e", 0), ("call", "f", 0), ("call", "e", 1))
        # The classes have all s beside one r.
        self.assertEqual([len(told) for told in classes(ALONE, SLOW)], [3, 3])
        ticks = {secrets: ticks_along(ALONE, SLOW, secrets, moves) for secrets in SLOW.all_secrets()}
        for secrets in SLOW.all_secrets():
            greatest = [max(ticks[(s, secrets[1])][at] for s in range(3)) for at in range(3)]
            self.assertEqual(padding(ALONE, SLOW, secrets, moves), tuple(a - b for a, b in zip(greatest, ticks[secrets])))
            # Up to the call of f all six have answered alike, but r shows itself in its answer.
            self.assertEqual(padding(ALONE, SLOW, secrets, moves, True), padding(ALONE, SLOW, secrets, moves))
        self.assertEqual(most_padding(book=ALONE, module=SLOW)[0], ticks[(2, 0)][0] - ticks[(0, 0)][0])

    def test_so_far(self):
        # r is shown at last, but goes another way ahead of it: two classes, one lot up to then.
        module = module_of("room 0", "secret r num 2", "entry e x num 3 num 3", "if r 0 3", "set x 0", "set x 0", "set x 0", "back x", "entry f x num 2 num 2",
                           "back r")
        moves = (("call", "e", 0), ("call", "f", 0), ("call", "e", 0))
        self.assertEqual(classes(ALONE, module), (((0,),), ((1,),)))
        self.assertEqual(padding(ALONE, module, (0,), moves), (0, 0, 0))
        self.assertEqual(padding(ALONE, module, (0,), moves, True), (4, 0, 0))
        self.assertEqual(padding(ALONE, module, (1,), moves, True), (0, 0, 0))
        self.assertEqual(most_padding(ALONE, module), (0, None))
        number, (secrets, play) = most_padding(book=ALONE, module=module, so_far=True)
        self.assertEqual((number, secrets, padding(ALONE, module, secrets, play, True)[-1]), (4, (0,), 4))

    def test_never(self):
        moves = (("call", "e", 0), ("call", "n", 0))
        self.assertEqual(len(padding(ALONE, SLOW, (0, 0), moves)), 1)
        self.assertEqual(ticks_along(ALONE, SLOW, (0, 0), moves), ticks_along(ALONE, SLOW, (0, 0), moves[:1]))
        self.assertEqual(padding(ALONE, SLOW, (0, 0), ()), ())

    def test_never_of_one_secret(self):
        # f goes round for ever if r is 0; the others answer it.
        module = module_of("room 0", "secret r num 2", "entry e x num 2 num 2", "if r 0 2", "set x 0", "back x", "entry f x num 2 num 2", "if r 1 2",
                           "go 1", "back x")
        moves = (("call", "e", 0), ("call", "f", 0))
        self.assertEqual(padding(ALONE, module, (0,), moves, True), (2,))
        self.assertEqual(padding(ALONE, module, (1,), moves, True), (0, 0))
        self.assertEqual((padding(ALONE, module, (0,), moves), padding(ALONE, module, (1,), moves)), ((0,), (0, 0)))
        self.assertEqual(most_padding(ALONE, module, True)[0], 2)

    def test_random_guests(self):
        rng = random.Random(42)
        added = {False: 0, True: 0}
        for _ in range(250):
            book = makers.random_book(rng, (3,))
            module = small_guest(rng, book)
            if module is None:
                continue
            secrets = rng.choice(module.all_secrets())
            play, _ = makers.random_play(rng, book, module, secrets, 4)
            moves = play[::2]
            for so_far in (False, True):
                told = padding(book, module, secrets, moves, so_far)
                self.assertEqual(told, slow_padding(book, module, secrets, moves, so_far))
                added[so_far] += any(told)
            # All secrets of a class are ticked equally long then, and one of them is not padded.
            group = [one for one in classes(book, module) if secrets in one][0]
            sums = [[a + b for a, b in zip(ticks_along(book, module, one, moves), padding(book, module, one, moves))] for one in group]
            self.assertTrue(all(told == sums[0] for told in sums))
            for at in range(len(moves)):
                self.assertEqual(min(padding(book, module, one, moves)[at] for one in group), 0)
        self.assertGreater(min(added.values()), 10, added)

    def test_most_against_a_slow_search(self):
        rng = random.Random(43)
        found = {True: 0, False: 0, None: 0}
        for _ in range(120):
            book = makers.random_book(rng, (3,))
            module = small_guest(rng, book)
            if module is None or book.inside or len(module.entries) > 1 and book.outs:
                continue
            for so_far in (False, True):
                try:
                    number, shown = most_padding(book, module, so_far)
                except InvalidSize as error:
                    self.assertIn(error.word, ("opens", "vectors"))
                    continue
                slow = slow_most(book, module, so_far, 2)
                self.assertGreaterEqual(number, slow)
                if shown is None:
                    self.assertEqual(number, 0)
                    found[None] += 1
                    continue
                found[so_far] += 1
                secrets, moves = shown
                self.assertEqual(padding(book, module, secrets, moves, so_far)[-1], number)
                if len(moves) <= 2:
                    self.assertEqual(number, slow)
        self.assertGreater(min(found.values()), 5, found)

    def test_late_padding(self):
        # Only the fourth call takes a longer way for one secret.
        module = module_of("room 0", "secret s num 2", "cell n num 4", "entry e x num 4 num 4", "add n 1", "if n 0 3", "go 6", "if s 0 6", "set n 0", "set n 0",
                           "back x")
        number, (secrets, moves) = most_padding(Book(4, True, 0, False, False), module)
        self.assertEqual((number, secrets, len(moves)), (4, (0,), 4))


class Errors(unittest.TestCase):
    def test_in_their_order(self):
        for call, rest in ((ticks_along, ()), (padding, ()), (padding, (True,))):
            for value in values():
                if not isinstance(value, Book):
                    self.assertEqual(caught(InvalidBook, call, value, None, None, None, *rest), "book")
                if not isinstance(value, Module):
                    self.assertEqual(caught(InvalidModule, call, HAND, value, None, None, *rest), ("module",))
                if not isinstance(value, (list, tuple)):
                    self.assertEqual(caught(InvalidSecrets, call, HAND, MODULE, value, None, *rest), -1)
                    self.assertEqual(caught(InvalidPlay, call, HAND, MODULE, (0,), value, *rest), -1)
            self.assertEqual(caught(InvalidModule, call, Book(3, False, 0, True, False), MODULE, None, None, *rest), ("cells", 0))
            self.assertEqual(caught(InvalidSecrets, call, HAND, MODULE, (2,), None, *rest), 0)
            self.assertEqual(caught(InvalidPlay, call, HAND, MODULE, (0,), [("back", 0), ("call", "z", 0)], *rest), 1)
            for moves, at in ([("back", 0)], 0), ([("call", "e", 2)], 0), ([("call", "e", 0), ("call", "e", 0)], 1), ([("call", "e", 0), ("back", 2)], 1):
                self.assertEqual(caught(Refused, call, HAND, MODULE, (0,), moves, *rest), at)
            self.assertEqual(caught(Refused, call, ALONE, SLOW, (0, 0), (("call", "n", 0), ("call", "e", 0)), *rest), 1)

    def test_of_most_padding(self):
        for value in values():
            if not isinstance(value, Book):
                self.assertEqual(caught(InvalidBook, most_padding, value, None), "book")
            if not isinstance(value, Module):
                self.assertEqual(caught(InvalidModule, most_padding, INSIDE, value), ("module",))
        self.assertEqual(caught(InvalidBook, most_padding, INSIDE, MODULE), "inside")
        self.assertEqual(caught(InvalidModule, most_padding, Book(3, False, 0, True, True), MODULE), ("cells", 0))
        # Books with calls inside have paddings along plays.
        self.assertEqual(padding(INSIDE, MODULE, (0,), (("call", "e", 0), ("call", "e", 1), ("back", 0), ("back", 1))), (0, 0, 1, 1))

    def test_many_vectors(self):
        book = Book(16, True, 0, False, False)
        module = module_of("room 0", "secret s num 2", "cell a num 16", "cell b num 16", "cell c num 16", "entry e x num 16 num 16", "copy c b", "copy b a",
                           "copy a x", "back x")
        try:
            self.assertEqual(most_padding(book, module), (0, None))
        except InvalidSize as error:
            self.assertIn(error.word, ("vectors", "opens"))


if __name__ == "__main__":
    unittest.main()
