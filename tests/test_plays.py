"""[27], [28] Lawful moves, answers, and the shortest play that parts two guests."""

import random
import unittest

from nomoreseen.errors import InvalidBook, InvalidModule, InvalidPlay, InvalidSecrets, InvalidSize, InvalidState, Refused
from nomoreseen.modules import Book, Module
from nomoreseen.plain import answered, begin
from nomoreseen.plays import answers, lawful_moves, shortest_play
from tests import makers
from tests.anything import caught, values
from tests.naive_pairs import parts, shortest
from tests.test_machine import module_of

OUTS = Book(3, True, 0, True, False)
INSIDE = Book(3, True, 0, True, True)
THINGS = Book(4, True, 2, True, True)
CALLER = module_of("room 0", "secret s num 2", "cell n num 3", "out g num 2 num 3", "entry e x num 2 num 3", "local t num 3", "call t g x",
                   "copy n t", "back n", "entry f y num 3 num 3", "back n")
KEEPER = module_of(
    "class box 2", "class jar 3", "room 2", "foreign far", "cell f thing far", "out g num 4 thing box", "out h thing far thing far",
    "entry make x num 2 thing box", "local b thing box", "make b box x", "back b",
    "entry jars x num 3 thing jar", "local j thing jar", "make j jar x", "back j",
    "entry ask x thing box num 4", "local k num 4", "call x g k", "set k 1", "back k", "entry keep x thing far num 4", "local k num 4",
    "copy f x", "call f h f", "back k",
)


def all_told(book, module, state):
    return tuple(makers.lawful_moves(book, module, state))


class Lawful(unittest.TestCase):
    def test_with_and_without_waiting_calls(self):
        state = begin(CALLER, (1,))
        calls = (("call", "e", 0), ("call", "e", 1), ("call", "f", 0), ("call", "f", 1), ("call", "f", 2))
        backs = (("back", 0), ("back", 1), ("back", 2))
        for book in (OUTS, INSIDE):
            self.assertEqual(lawful_moves(book, CALLER, state), calls)
        waiting = answered(CALLER, state, ("call", "e", 1))[1]
        self.assertEqual(lawful_moves(OUTS, CALLER, waiting), backs)
        self.assertEqual(lawful_moves(INSIDE, CALLER, waiting), calls + backs)
        self.assertEqual(lawful_moves(book=INSIDE, module=CALLER, state=[list(part) for part in waiting]), calls + backs)

    def test_things(self):
        state = ((0,), ((0, 1), (1, 2)), (2, 1), (1,), ((2, 0, (1, 0)),))
        calls = [("call", "make", 0), ("call", "make", 1), ("call", "jars", 0), ("call", "jars", 1), ("call", "jars", 2)]
        calls += [("call", "ask", 0), ("call", "ask", 2), ("call", "keep", 0), ("call", "keep", 1), ("call", "keep", 2)]
        self.assertEqual(lawful_moves(THINGS, KEEPER, state), tuple(calls) + (("back", 0), ("back", 2)))
        waiting = state[:4] + (((3, 1, (0, 0)),),)
        self.assertEqual(lawful_moves(THINGS, KEEPER, waiting), tuple(calls) + (("back", 0), ("back", 1), ("back", 2)))

    def test_numbers_beyond_the_word(self):
        # Where so many foreign things came, the next one has no place.
        for came, most in ((2, 3), (3, 3), (10 ** 9, 3)):
            state = ((0,), (), (), (came,), ())
            moves = [move for move in lawful_moves(THINGS, KEEPER, state) if move[1] == "keep"]
            self.assertEqual(moves, [("call", "keep", value) for value in range(most + 1)])
        module = module_of("room 0", "foreign far", "entry e x thing far num 3", "local t num 3", "back t")
        moves = [("call", "e", place) for place in (1, 2, 2, 3)]
        self.assertEqual(answers(Book(3, False, 1, False, False), module, (), moves[:3]), (("back", 0),) * 3)
        self.assertEqual(caught(Refused, answers, Book(3, False, 1, False, False), module, (), moves), 3)

    def test_random_states(self):
        rng = random.Random(27)
        for _ in range(300):
            book = makers.random_book(rng)
            module = makers.random_guest(rng, book, makers.random_doors(rng, book))
            _, state = makers.random_play(rng, book, module, rng.choice(module.all_secrets()), 5)
            self.assertEqual(lawful_moves(book, module, state), all_told(book, module, state))

    def test_wrong_arguments(self):
        state = begin(CALLER, (0,))
        for value in values():
            if not isinstance(value, Book):
                self.assertEqual(caught(InvalidBook, lawful_moves, value, None, None), "book")
            if not isinstance(value, Module):
                self.assertEqual(caught(InvalidModule, lawful_moves, OUTS, value, None), ("module",))
            caught(InvalidState, lawful_moves, OUTS, CALLER, value)
        self.assertEqual(caught(InvalidModule, lawful_moves, Book(3, True, 0, False, False), CALLER, None), ("outs", 0))
        for at, told in [(-1, state[:4]), (1, state[:1] + (((0, 0),),) + (9, 9, 9)), (2, state[:2] + ((1,), 9, 9)), (3, state[:3] + ((1,), 9)),
                         (0, ((2, 0),) + state[1:]), (4, state[:4] + (((0, 1, (0, 0)),),))]:
            self.assertEqual(caught(InvalidState, lawful_moves, OUTS, CALLER, told), at)


class Answers(unittest.TestCase):
    def test_plays(self):
        moves = (("call", "e", 1), ("back", 2), ("call", "f", 0))
        self.assertEqual(answers(OUTS, CALLER, (0,), ()), ())
        self.assertEqual(answers(OUTS, CALLER, (0,), moves), (("call", "g", 1), ("back", 2), ("back", 2)))
        self.assertEqual(answers(book=OUTS, module=CALLER, secrets=[0], moves=[list(move) for move in moves]), answers(OUTS, CALLER, (0,), moves))
        inside = (("call", "e", 1), ("call", "f", 0), ("call", "e", 0), ("back", 1), ("back", 2))
        told = (("call", "g", 1), ("back", 0), ("call", "g", 0), ("back", 1), ("back", 2))
        self.assertEqual(answers(INSIDE, CALLER, (0,), inside), told)
        self.assertEqual(caught(Refused, answers, OUTS, CALLER, (0,), inside), 1)

    def test_behind_never(self):
        module = module_of("room 0", "entry e x num 3 num 3", "if x 0 2", "go 1", "back x")
        book = Book(3, False, 0, False, False)
        self.assertEqual(answers(book, module, (), [("call", "e", 0), ("call", "e", 1)]), (("back", 0), ("never",)))
        self.assertEqual(caught(Refused, answers, book, module, (), [("call", "e", 1), ("call", "e", 0)]), 1)
        self.assertEqual(caught(InvalidPlay, answers, book, module, (), [("call", "e", 1), ("call", "e", 0), ("call", "f", 0)]), 2)

    def test_forms_ahead_of_what_is_lawful(self):
        for moves, at in [
            (("call",), 0), ("call", -1), (None, -1), (7, -1), ((("back", 0), ("stay", 0)), 1), ((("call", "g", 0),), 0), ((("never",),), 0),
            ((("back", 0), ("back", True)), 1), ((("call", "e", 9), ("call", "e", -1)), 1), ((("back", 0), ("call", "e", 0, ())), 1),
            ((("show",),), 0), ((("call", "e"),), 0), ((("call", ("e",), 0),), 0),
        ]:
            self.assertEqual(caught(InvalidPlay, answers, OUTS, CALLER, (0,), moves), at, moves)
        for moves, at in [
            ([("back", 0)], 0), ([("call", "e", 2)], 0), ([("call", "f", 2), ("call", "f", 3)], 1), ([("call", "e", 1), ("back", 3)], 1),
            ([("call", "e", 1), ("call", "f", 0)], 1),
        ]:
            self.assertEqual(caught(Refused, answers, OUTS, CALLER, (0,), moves), at, moves)

    def test_any_values(self):
        for value in values():
            if not isinstance(value, Book):
                self.assertEqual(caught(InvalidBook, answers, value, CALLER, (9,), 0), "book")
            if not isinstance(value, Module):
                self.assertEqual(caught(InvalidModule, answers, OUTS, value, (9,), 0), ("module",))
            if value not in ((0,), [0]):
                caught(InvalidSecrets, answers, OUTS, CALLER, value, 0)
            if value not in ((), []):
                caught(InvalidPlay, answers, OUTS, CALLER, (0,), value)
        self.assertEqual(caught(InvalidModule, answers, Book(4, False, 0, True, False), CALLER, (9,), 0), ("cells", 0))
        self.assertEqual(caught(InvalidSecrets, answers, OUTS, CALLER, (2,), 0), 0)
        self.assertEqual(caught(InvalidSecrets, answers, OUTS, CALLER, (), 0), -1)

    def test_random_plays(self):
        rng = random.Random(28)
        for _ in range(200):
            book = makers.random_book(rng)
            module = makers.random_guest(rng, book, makers.random_doors(rng, book))
            secrets = rng.choice(module.all_secrets())
            play, _ = makers.random_play(rng, book, module, secrets, 6)
            self.assertEqual(answers(book, module, secrets, play[::2]), play[1::2])


class Shortest(unittest.TestCase):
    def test_by_hand(self):
        book = Book(3, False, 0, False, False)
        one = module_of("room 0", "cell n num 3", "entry e x num 3 num 3", "add n 1", "if n 0 3", "back x", "set x 0", "back x")
        other = module_of("room 0", "entry e y num 3 num 3", "back y")
        play = shortest_play(book, one, other, (), ())
        self.assertEqual((len(play), parts(book, one, other, (), (), play)), (3, True))
        self.assertIsNone(shortest_play(book, one, one, (), ()))
        self.assertIsNone(shortest_play(book=book, one=other, other=other, secrets=[], others=[]))
        never = module_of("room 0", "entry e x num 3 num 3", "go 0")
        self.assertEqual(len(shortest_play(book, never, other, (), ())), 1)
        self.assertIsNone(shortest_play(book, never, never, (), ()))

    def test_two_secrets(self):
        module = module_of("room 0", "secret s num 2", "out g num 2 num 3", "entry e x num 2 num 2", "local t num 3", "call t g x", "back s")
        play = shortest_play(OUTS, module, module, (0,), (1,))
        self.assertEqual((len(play), play[1][0]), (2, "back"))
        self.assertIsNone(shortest_play(OUTS, module, module, (1,), (1,)))

    def test_endlessly_many_states(self):
        # However many calls wait they are alike; or part when three wait.
        module = module_of("room 0", "secret s num 2", "out g num 3 num 3", "entry e x num 3 num 3", "call x g x", "back x")
        self.assertIsNone(shortest_play(INSIDE, module, module, (0,), (1,)))
        deep = module_of("room 0", "secret s num 2", "cell n num 3", "out g num 3 num 3", "entry e x num 3 num 3", "add n 1", "if n 0 4",
                         "call x g x", "back x", "back x")
        self.assertIsNone(shortest_play(INSIDE, deep, deep, (0,), (1,)))
        unlike = module_of("room 0", "secret s num 2", "cell n num 3", "out g num 3 num 3", "entry e x num 3 num 3", "add n 1", "if n 0 4",
                           "call x g x", "back x", "if s 0 3", "set x 0", "back x")
        play = shortest_play(INSIDE, unlike, unlike, (0,), (1,))
        self.assertEqual((len(play), parts(INSIDE, unlike, unlike, (0,), (1,), play)), (3, True))

    def test_against_slow_search(self):
        rng = random.Random(29)
        found = {}
        for _ in range(350):
            book = makers.random_book(rng)
            doors = makers.random_doors(rng, book)
            one = makers.random_guest(rng, book, doors)
            other = makers.random_guest(rng, book, doors) if rng.random() < 0.4 else one
            secrets, others = rng.choice(one.all_secrets()), rng.choice(other.all_secrets())
            fewest, whole = shortest(book, one, other, secrets, others)
            try:
                play = shortest_play(book, one, other, secrets, others)
            except InvalidSize as error:
                self.assertEqual((error.word, whole), ("pairs", False))
                continue
            if whole:
                self.assertEqual(None if play is None else len(play), fewest)
            if play is not None:
                self.assertTrue(parts(book, one, other, secrets, others, play))
                found[len(play)] = found.get(len(play), 0) + 1
        self.assertGreater(found[2], 5)

    def test_errors_in_order(self):
        narrow = Book(3, False, 0, True, False)
        plain = module_of("room 0", "entry e x num 3 num 3", "back x")
        other = module_of("room 0", "entry f x num 3 num 3", "back x")
        self.assertEqual(caught(InvalidBook, shortest_play, None, plain, plain, 0, 0), "book")
        self.assertEqual(caught(InvalidModule, shortest_play, narrow, CALLER, None, 0, 0), ("cells", 0))
        self.assertEqual(caught(InvalidModule, shortest_play, narrow, plain, None, 0, 0), ("module",))
        self.assertEqual(caught(InvalidModule, shortest_play, narrow, plain, CALLER, 0, 0), ("cells", 0))
        self.assertEqual(caught(InvalidModule, shortest_play, narrow, plain, other, 0, 0), ("entries", -1))
        self.assertEqual(caught(InvalidSecrets, shortest_play, OUTS, CALLER, CALLER, (2,), (2,)), 0)
        self.assertEqual(caught(InvalidSecrets, shortest_play, OUTS, CALLER, CALLER, (0,), None), 1)

    def test_too_many_pairs(self):
        # Calls can wait in endlessly many orders, and only after very many of them the two part.
        module = module_of(
            "room 0", "secret s num 3", "cell a num 3", "cell b num 3", "cell c num 3", "cell d num 3", "out g num 3 num 3",
            "entry e x num 3 num 3", "call x g x", "add a 1", "if a 0 4", "back x", "add b 1", "if b 0 7", "back x", "add c 1", "if c 0 10",
            "back x", "add d 1", "if d 0 13", "back x", "back s")
        self.assertEqual(caught(InvalidSize, shortest_play, Book(3, True, 0, True, True), module, module, (0,), (1,)), "pairs")


if __name__ == "__main__":
    unittest.main()
