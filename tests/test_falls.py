"""[47] Programs on the machine some of whose modules have fallen, and what is seen of deeds there."""

import random
import unittest

from nomoreseen.errors import InvalidLink, InvalidLots, InvalidScript, InvalidSecrets, InvalidSpots, Refused
from nomoreseen.falls import fallen_sights
from nomoreseen.linker import Program
from nomoreseen.modules import Book
from nomoreseen.rests import begin_rest, rest_answered, rest_moves
from tests.anything import caught, values
from tests.naive_switch import all_deeds, seen_of
from tests.programs import random_fallen, random_program, random_secrets
from tests.test_rests import BOOK, PROGRAM, SECRETS, part

NEVER = ("never",)
GUARDS = ("who", "backof", "turn")
# a calls b and c; b calls c, then f, then c: put tells c 1, then 0. Links: a o b e, b p c put, b q f e, a s c peek.
A = part("a", "out o num 3 num 3", "out s num 3 num 3", "entry run x num 3 num 3", "call x o x", "call x s x", "back x")
B = part("b", "out p num 3 num 3", "out q num 3 num 3", "entry e x num 3 num 3", "local t num 3", "local z num 3", "set t 1", "call t p t",
         "call t q z", "call z p z", "back t")
C = part("c", "cell n num 3", "entry put x num 3 num 3", "copy n x", "back x", "entry peek x num 3 num 3", "back n")
F = part("f", "entry e x num 3 num 3", "back x")
NET = Program(BOOK, (A, B, C, F), (("a", "o", "b", "e"), ("b", "p", "c", "put"), ("b", "q", "f", "e"), ("a", "s", "c", "peek")), ("a", "run"))
NONE = ((), (), (), ())


def seen(fallen, *script, bare=(), program=NET, secrets=NONE):
    return fallen_sights(program, fallen, secrets, bare, script)


class Guards(unittest.TestCase):
    def test_who(self):
        fallen = ("a", "f")
        # A jump along the link of b from a's room.
        self.assertEqual(seen(fallen, ("a", "call", 2, 1)), (NEVER,))
        self.assertEqual(seen(fallen, ("a", "call", 2, 1), bare=("who",)), ((),))
        self.assertEqual(seen(fallen, ("f", "call", 0, 1)), (NEVER,))
        # f has not the turn either.
        self.assertEqual(seen(fallen, ("f", "call", 0, 1), bare=("who",)), (NEVER,))
        self.assertEqual(seen(fallen, ("f", "call", 0, 1), bare=("who", "turn")), (("call", 2, 0),))
        # c answers along the newest link whose callee it is, to b, of whose calls none waits.
        self.assertEqual(seen(fallen, ("a", "call", 1, 1), bare=("who",)), (NEVER,))
        # b waits for f: what c answers to it goes on behind that call.
        script = (("a", "call", 0, 0), ("f", "call", 1, 2), ("a", "call", 3, 0))
        self.assertEqual(seen(fallen, *script, bare=("who",)), (("call", 2, 0), ("back", 0, 2), ("back", 3, 0)))
        self.assertEqual(seen(fallen, *script[:2], bare=("turn", "backof")), (("call", 2, 0), NEVER))

    def test_turn(self):
        fallen = ("a", "f")
        script = (("a", "call", 0, 0), ("a", "call", 3, 0), ("f", "back", 2, 2), ("a", "call", 3, 0))
        self.assertEqual(seen(fallen, *script, bare=["turn"]), (("call", 2, 0), ("back", 3, 1), ("back", 0, 2), ("back", 3, 0)))
        self.assertEqual(seen(fallen, *script[:2]), (("call", 2, 0), NEVER))
        self.assertEqual(seen(fallen, *script[:2], bare=("who", "backof")), (("call", 2, 0), NEVER))

    def test_backof(self):
        fallen = ("a", "f")
        first = ("a", "call", 0, 0)
        # The right one, the wrong room, a link that is not the newest one, one that is not on the pile.
        self.assertEqual(seen(fallen, first, ("f", "back", 2, 1)), (("call", 2, 0), ("back", 0, 1)))
        self.assertEqual(seen(fallen, first, ("a", "back", 2, 1)), (("call", 2, 0), NEVER))
        self.assertEqual(seen(fallen, first, ("a", "back", 2, 1), bare=("backof",)), (("call", 2, 0), ("back", 0, 1)))
        self.assertEqual(seen(fallen, first, ("f", "back", 0, 1)), (("call", 2, 0), NEVER))
        # All above it goes, too: a has the turn again.
        script = (first, ("f", "back", 0, 1), ("a", "call", 3, 0), ("f", "back", 2, 1))
        self.assertEqual(seen(fallen, *script, bare=("backof",)), (("call", 2, 0), (), ("back", 3, 1), NEVER))
        # Behind this b goes on, though nothing on the pile waits for it; it answers to nobody.
        self.assertEqual(seen(fallen, first, ("f", "back", 0, 1), ("f", "back", 2, 1), bare=("backof",)), (("call", 2, 0), (), NEVER))
        self.assertEqual(seen(fallen, ("f", "back", 2, 1), bare=("backof",)), (NEVER,))
        self.assertEqual(seen(fallen, ("a", "back", 0, 1), ("a", "back", 3, 2), ("a", "call", 3, 1), bare=("backof",)), ((), (), ("back", 3, 0)))

    def test_calls_among_the_fallen(self):
        fallen = ("a", "b", "f")
        script = (("a", "call", 0, 2), ("b", "call", 1, 1), ("b", "call", 2, 0), ("f", "back", 2, 2), ("b", "back", 0, 1), ("a", "call", 3, 0))
        self.assertEqual(seen(fallen, *script), ((), ("back", 1, 1), (), (), (), ("back", 3, 1)))
        # Of the same link there may be several on the pile, without who: the newest one is taken.
        script = (("a", "call", 0, 0), ("b", "call", 0, 0), ("b", "call", 0, 0), ("a", "back", 0, 0), ("b", "call", 1, 2), ("b", "back", 0, 0), ("b", "back", 0, 0),
                  ("b", "call", 1, 2))
        self.assertEqual(seen(fallen, *script, bare=("who", "backof")), ((), (), (), (), ("back", 1, 2), (), (), NEVER))

    def test_main_of_the_rest(self):
        self.assertEqual(seen(("f",)), (("call", 2, 0),))
        self.assertEqual(seen(("f",), ("f", "back", 2, 2)), (("call", 2, 0), ("over", 0)))
        self.assertEqual(seen(("c",)), (("call", 1, 1),))
        self.assertEqual(seen(("c",), ("c", "back", 1, 2), ("c", "back", 1, 1), ("c", "back", 3, 2)), (("call", 1, 1), ("call", 1, 0), ("call", 3, 0), ("over", 2)))
        for script in ((("c", "back", 1, 2), ("c", "back", 3, 1)), (("c", "call", 1, 0),)):
            self.assertEqual(seen(("c",), *script)[-1], NEVER)
        # The beginning may end all.
        plain = Program(BOOK, (part("a", "out o num 3 num 3", "entry run x num 3 num 3", "back x", "call x o x", "back x"), part(
            "b", "entry e x num 3 num 3", "back x")), (("a", "o", "b", "e"),), ("a", "run"))
        self.assertEqual(fallen_sights(plain, ("b",), ((), ()), (), ()), (("over", 0),))
        self.assertEqual(caught(Refused, fallen_sights, plain, ("b",), ((), ()), (), (("b", "back", 0, 0),)), 0)
        ends = Program(BOOK, (part("a", "out o num 3 num 3", "entry run x num 3 num 3", "go 0", "call x o x", "back x"), plain.modules[1]), plain.links, plain.main)
        self.assertEqual(fallen_sights(ends, ("b",), ((), ()), (), ()), (NEVER,))

    def test_words_and_rounds(self):
        narrow = Book(4, True, 0, True, False)
        one = part("a", "out o num 2 num 2", "entry run x num 2 num 2", "call x o x", "go 0")
        two = part("b", "out p num 3 num 3", "entry e x num 2 num 2", "local t num 3", "if x 1 3", "call t p t", "back x", "back x")
        program = Program(narrow, (one, two, part("c", "entry e x num 3 num 3", "back x")), (("a", "o", "b", "e"), ("b", "p", "c", "e")), ("a", "run"))
        told = ((), (), ())
        # A word beyond the kind stops who gets it.
        self.assertEqual(fallen_sights(program, ("a",), told, (), (("a", "call", 0, 1), ("a", "call", 0, 2))), (("back", 0, 1), NEVER))
        self.assertEqual(fallen_sights(program, ("c",), told, (), (("c", "back", 1, 3),)), (("call", 1, 0), NEVER))
        self.assertEqual(fallen_sights(program, ("a", "b"), told, (), (("a", "call", 0, 3),)), ((),))
        # Rounds through several modules of the rest.
        again = part("b", "out p num 3 num 3", "entry e x num 2 num 2", "local t num 3", "back x", "call t p t", "back x")
        round_ = Program(narrow, (one, again, program.modules[2]), program.links, program.main)
        self.assertEqual(fallen_sights(round_, ("c",), told, (), ()), (NEVER,))


class Random(unittest.TestCase):
    def test_against_a_mirror(self):
        rng = random.Random(47)
        found = {"never": 0, "over": 0, "back": 0, "call": 0, "()": 0}
        for _ in range(1500):
            program = random_program(rng)
            fallen, secrets = random_fallen(rng, program), random_secrets(rng, program)
            bare = tuple(rng.sample(GUARDS, rng.randrange(4)))
            deeds, script = list(all_deeds(program, fallen)), ()
            told = seen_of(program, fallen, secrets, bare, ())
            while len(script) < 8 and not (told and told[-1][:1] in (("never",), ("over",))):
                # Mostly deeds behind which it goes on.
                tries = [script + (rng.choice(deeds),) for _ in range(4)]
                script = ([more for more in tries if seen_of(program, fallen, secrets, bare, more)[-1] != NEVER] + tries)[0]
                told = seen_of(program, fallen, secrets, bare, script)
            listed = [list(deed) for deed in script]
            self.assertEqual(fallen_sights(program, fallen, secrets, bare, script), told)
            self.assertEqual(fallen_sights(program=program, fallen=list(fallen), secrets=list(secrets), bare=list(bare), script=listed), told)
            for sight in told:
                found[sight[0] if sight else "()"] += 1
            if told and told[-1][:1] in (("never",), ("over",)):
                self.assertEqual(caught(Refused, fallen_sights, program, fallen, secrets, bare, script + tuple(deeds[:1] * 2)), len(script))
        self.assertGreater(min(found.values()), 50, found)

    def test_with_all_guards_it_is_the_play(self):
        # What is seen then is what the rest answers to lawful moves.
        rng = random.Random(48)
        for _ in range(300):
            program = random_program(rng)
            fallen, secrets = random_fallen(rng, program), random_secrets(rng, program)
            state, script, told = begin_rest(program, fallen, secrets), [], []
            while state is not None and len(script) < 6:
                moves = rest_moves(program, fallen, state)
                if not moves:
                    break
                move = rng.choice(moves)
                if move[0] == "call":
                    script.append((program.links[move[1]][0],) + move)
                elif move[0] == "back":
                    script.append((program.links[state[0][-1]][2], "back", state[0][-1], move[1]))
                answer, state = rest_answered(program, fallen, state, move)
                told.append(answer)
            if program.main[0] not in fallen and not told:
                continue
            self.assertEqual(fallen_sights(program, fallen, secrets, (), script), tuple(told))


class Errors(unittest.TestCase):
    def test_in_their_order(self):
        for value in values():
            if not isinstance(value, Program):
                self.assertEqual(caught(InvalidLink, fallen_sights, value, None, None, None, None), -1)
            if not isinstance(value, (list, tuple)):
                self.assertEqual(caught(InvalidLots, fallen_sights, NET, value, None, None, None), -1)
                self.assertEqual(caught(InvalidSecrets, fallen_sights, NET, ("a",), value, None, None), -1)
                self.assertEqual(caught(InvalidSpots, fallen_sights, NET, ("a",), NONE, value, None), -1)
                self.assertEqual(caught(InvalidScript, fallen_sights, NET, ("a",), NONE, (), value), -1)
            self.assertEqual(caught(InvalidSpots, fallen_sights, NET, ("a",), NONE, ("turn", value, "turn"), None), 1)
            self.assertEqual(caught(InvalidScript, fallen_sights, NET, ("a",), NONE, (), [("a", "call", 0, 0), value, None]), 1)
        for wrong, at in ((("a", "a"), 1), (("z",), 0), ((), -1), (("a", "b", "c", "f"), -1), (("a", None), 1)):
            self.assertEqual(caught(InvalidLots, fallen_sights, NET, wrong, None, None, None), at)
        self.assertEqual(caught(InvalidSecrets, fallen_sights, PROGRAM, ("root",), (None, (3,), None, None), None, None), 1)
        self.assertEqual(fallen_sights(PROGRAM, ("left",), (SECRETS[0], "any", (), ()), (), ())[0][0], "call")
        for wrong in (("who", "who"), ("who", "Turn"), ("who", "wipe"), ("who", ("turn",))):
            self.assertEqual(caught(InvalidSpots, fallen_sights, NET, ("a",), NONE, wrong, None), 1)
        for wrong in (("b", "call", 0, 0), ("z", "call", 0, 0), ("a", "jump", 0, 0), ("a", "call", 4, 0), ("a", "call", -1, 0), ("a", "call", 0, 3),
                      ("a", "call", True, 0), ("a", "call", 0, False), ("a", "back", 0), ("a", "call", 0, 0, 0), ("call", 0, 0), (None, "call", 0, 0)):
            self.assertEqual(caught(InvalidScript, fallen_sights, NET, ("a", "f"), NONE, (), [("a", "call", 1, 0), wrong]), 1, wrong)
        self.assertEqual(caught(Refused, fallen_sights, NET, ("a",), NONE, (), [("a", "back", 0, 0), ("a", "back", 0, 0)]), 1)


if __name__ == "__main__":
    unittest.main()
