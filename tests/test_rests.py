"""[44], [45], [46] Programs some of whose modules have fallen."""

import random
import unittest

from nomoreseen.errors import InvalidLink, InvalidLots, InvalidPlay, InvalidSecrets, Refused
from nomoreseen.linker import Program
from nomoreseen.modules import Book
from nomoreseen.rests import begin_rest, has_turn, rest_answered, rest_moves, rest_play
from nomoreseen.texts import read_module
from tests.anything import caught, values
from tests.programs import Walk, random_fallen, random_program, random_secrets

BOOK = Book(3, True, 0, True, False)


def part(name, *lines):
    return read_module("\n".join(("module " + name, "room 0") + lines))


ROOT = part("root", "secret s num 3", "out left num 3 num 3", "out right num 2 num 3", "entry run x num 3 num 3", "local b num 2",
            "call x left x", "call x right b", "add x 1", "back x")
LEFT = part("left", "secret s num 3", "cell n num 3", "out down num 3 num 2", "entry go x num 3 num 3", "local y num 2", "call y down x",
            "copy n x", "back s")
RIGHT = part("right", "entry go x num 2 num 3", "local y num 3", "if x 1 0", "add y 2", "back y")
DOWN = part("down", "cell n num 3", "entry go x num 3 num 2", "local y num 2", "add n 1", "if n 2 1", "back y")
LINKS = (("root", "left", "left", "go"), ("left", "down", "down", "go"), ("root", "right", "right", "go"))
PROGRAM = Program(BOOK, (ROOT, LEFT, RIGHT, DOWN), LINKS, ("root", "run"))
SECRETS = ((1,), (2,), (), ())


def first(cells):
    return (cells, (), (), (), ())


class ByHand(unittest.TestCase):
    def test_main_has_fallen(self):
        state = begin_rest(PROGRAM, ("root",), (None, (2,), (), ()))
        self.assertEqual(state, ((), (None, first((2, 0)), first(()), first((0,))), True))
        self.assertEqual(has_turn(PROGRAM, state), "root")
        moves = (("call", 0, 0), ("call", 0, 1), ("call", 0, 2), ("call", 2, 0), ("call", 2, 1))
        self.assertEqual(rest_moves(PROGRAM, ["root"], state), moves)
        # A call within the rest is heard of by nobody.
        answer, behind = rest_answered(PROGRAM, ("root",), state, ("call", 0, 1))
        self.assertEqual((answer, behind), (("back", 0, 2), ((), (None, first((2, 1)), first(()), first((1,))), True)))
        self.assertEqual(rest_play(PROGRAM, ("root",), SECRETS, (("call", 2, 0), ("call", 0, 1), ("call", 0, 0))),
                         (("back", 2, 2), ("back", 0, 2), ("never",)))
        self.assertEqual(rest_play(PROGRAM, ("root",), SECRETS, [["call", 2, 1]]), (("never",),))

    def test_main_has_not_fallen(self):
        state = begin_rest(PROGRAM, ("down",), ((1,), (2,), (), [7]))
        self.assertEqual(state, ((), (first((1,)), first((2, 0)), first(()), None), False))
        self.assertEqual((has_turn(PROGRAM, state), rest_moves(PROGRAM, ("down",), state)), ("root", (("main",),)))
        answer, state = rest_answered(PROGRAM, ("down",), state, ["main"])
        self.assertEqual((answer, state[0], has_turn(PROGRAM, state)), (("call", 1, 0), (0, 1), "down"))
        self.assertEqual(rest_moves(PROGRAM, ("down",), state), (("back", 0), ("back", 1)))
        self.assertEqual(rest_answered(PROGRAM, ("down",), state, ("back", 1)), (("over", 0), None))
        self.assertEqual(rest_play(PROGRAM, ("down",), SECRETS, (("main",), ("back", 0))), (("call", 1, 0), ("over", 0)))
        self.assertEqual(caught(Refused, rest_play, PROGRAM, ("down",), SECRETS, (("main",), ("back", 0), ("back", 0))), 2)
        self.assertEqual(caught(Refused, rest_play, PROGRAM, ("down",), SECRETS, (("main",), ("main",))), 1)
        self.assertEqual(caught(Refused, rest_play, PROGRAM, ("down",), SECRETS, (("back", 0),)), 0)

    def test_among_the_fallen(self):
        fallen = ("left", "down")
        told = rest_play(PROGRAM, fallen, SECRETS, (("main",), ("call", 1, 2), ("back", 1), ("back", 1)))
        self.assertEqual(told, (("call", 0, 0), (), (), ("over", 0)))
        self.assertEqual(caught(Refused, rest_play, PROGRAM, fallen, SECRETS, (("main",), ("call", 0, 0))), 1)
        self.assertEqual(caught(Refused, rest_play, PROGRAM, fallen, SECRETS, (("main",), ("call", 2, 0))), 1)
        self.assertEqual(caught(Refused, rest_play, PROGRAM, fallen, SECRETS, (("main",), ("call", 1, 3))), 1)
        self.assertEqual(caught(Refused, rest_play, PROGRAM, fallen, SECRETS, (("main",), ("call", 1, 2), ("back", 2))), 2)
        fallen = ("down", "root")
        told = rest_play(PROGRAM, fallen, SECRETS, (("call", 0, 2), ("back", 1), ("call", 2, 0)))
        self.assertEqual(told, (("call", 1, 2), ("back", 0, 2), ("back", 2, 2)))
        fallen = ("root", "left", "right")
        told = rest_play(PROGRAM, fallen, SECRETS, (("call", 0, 2), ("call", 1, 1), ("back", 1), ("call", 2, 0), ("back", 2), ("call", 0, 0),
                                                    ("call", 1, 0)))
        self.assertEqual(told, ((), ("back", 1, 0), (), (), (), (), ("never",)))

    def test_rounds_through_several_modules(self):
        caller = part("a", "out o num 3 num 3", "entry run x num 3 num 3", "call x o x", "go 0")
        callee = part("b", "entry e x num 3 num 3", "back x")
        third = part("c", "entry e x num 3 num 3", "back x")
        other = part("a", "out o num 3 num 3", "out p num 3 num 3", "entry run x num 3 num 3", "call x o x", "if x 2 3", "go 0", "call x p x", "go 0")
        program = Program(BOOK, (other, callee, third), (("a", "o", "b", "e"), ("a", "p", "c", "e")), ("a", "run"))
        self.assertEqual(rest_play(program, ("c",), ((), (), ()), (("main",),)), (("never",),))
        self.assertEqual(rest_play(program, ("b",), ((), (), ()), (("main",), ("back", 1), ("back", 2))), (("call", 0, 0), ("call", 0, 1), ("call", 0, 2)))
        counting = part("b", "cell n num 3", "entry e x num 3 num 3", "add n 1", "back n")
        program = Program(BOOK, (counting, other, third), (("a", "p", "c", "e"), ("a", "o", "b", "e")), ("a", "run"))
        told = rest_play(program, ("c",), ((), (), ()), (("main",), ("back", 0), ("back", 1)))
        self.assertEqual(told, (("call", 0, 2), ("call", 0, 2), ("call", 0, 2)))
        self.assertIsNotNone(caller)


class Errors(unittest.TestCase):
    def test_no_programs(self):
        for value in values():
            if isinstance(value, Program):
                continue
            self.assertEqual(caught(InvalidLink, begin_rest, value, None, None), -1)
            self.assertEqual(caught(InvalidLink, has_turn, value, None), -1)
            self.assertEqual(caught(InvalidLink, rest_moves, value, None, None), -1)
            self.assertEqual(caught(InvalidLink, rest_answered, value, None, None, None), -1)
            self.assertEqual(caught(InvalidLink, rest_play, value, None, None, None), -1)

    def test_fallen(self):
        state = begin_rest(PROGRAM, ("down",), SECRETS)
        wrong = [((), -1), (None, -1), ("down", -1), (("root", "left", "right", "down"), -1), (("x",) * 4, -1), (("x",) * 5, -1), (("x",), 0),
                 (("down", "down"), 1), (["down", "root", "down"], 2), ((0,), 0), ((["down"],), 0), ((None,), 0), (7, -1), (("root", True), 1)]
        for fallen, at in wrong:
            self.assertEqual(caught(InvalidLots, begin_rest, PROGRAM, fallen, None), at, fallen)
            self.assertEqual(caught(InvalidLots, rest_moves, PROGRAM, fallen, state), at)
            self.assertEqual(caught(InvalidLots, rest_answered, PROGRAM, fallen, state, None), at)
            self.assertEqual(caught(InvalidLots, rest_play, PROGRAM, fallen, None, None), at)
        for value in values():
            caught(InvalidLots, begin_rest, PROGRAM, value, None)

    def test_secrets(self):
        wrong = [(None, -1), ((), -1), (SECRETS[:3], -1), (SECRETS + ((),), -1), (((3,), (2,), (), ()), 0), (((1,), (2, 0), (), ()), 1),
                 (((1,), (True,), (), ()), 1), (((1,), (2,), None, ()), 2), (((1,), (2,), (0,), 7), 2), ("abcd", -1)]
        for secrets, at in wrong:
            self.assertEqual(caught(InvalidSecrets, begin_rest, PROGRAM, ("down",), secrets), at, secrets)
            self.assertEqual(caught(InvalidSecrets, rest_play, PROGRAM, ("down",), secrets, None), at)
        for value in values():
            self.assertEqual(begin_rest(PROGRAM, ("left", "down"), ((1,), value, (), value)), begin_rest(PROGRAM, ("down", "left"), SECRETS))

    def test_moves(self):
        state = begin_rest(PROGRAM, ("root",), SECRETS)
        for value in values() + [("call", 0, 3), ("call", 3, 0), ("call", 1, 0), ("call", True, 0), ("call", False, 0), ("call", 0, False), ("call", 2, True), ("back", 0), ("main",),
                                 ("call", 0, 0, 0), ("call", "left", 0), ("call", -1, 0), ("call", 0), [], None]:
            self.assertEqual(caught(Refused, rest_answered, PROGRAM, ("root",), state, value), 0, value)
            self.assertEqual(caught(Refused, rest_play, PROGRAM, ("root",), SECRETS, (("call", 2, 0), value)), 1)
            if not isinstance(value, (list, tuple)):
                self.assertEqual(caught(InvalidPlay, rest_play, PROGRAM, ("root",), SECRETS, value), -1)
        self.assertEqual(rest_play(program=PROGRAM, fallen=["root"], secrets=list(SECRETS), moves=[]), ())
        named = rest_answered(program=PROGRAM, fallen=["root"], state=[list(part) if part else part for part in state[:2]] + [True], move=["call", 0, 1])
        self.assertEqual(named, rest_answered(PROGRAM, ("root",), state, ("call", 0, 1)))
        self.assertEqual(begin_rest(program=PROGRAM, fallen=("root",), secrets=SECRETS), state)
        self.assertEqual(rest_moves(program=PROGRAM, fallen=("root",), state=state), rest_moves(PROGRAM, ["root"], state))
        self.assertEqual(has_turn(program=PROGRAM, state=state), "root")


class Random(unittest.TestCase):
    def test_against_calls_within_calls(self):
        rng = random.Random(45)
        found = {"over": 0, "never": 0, "call": 0, "back": 0, "": 0}
        for _ in range(400):
            program = random_program(rng)
            fallen, secrets = random_fallen(rng, program), random_secrets(rng, program)
            walk = Walk(program, fallen, secrets)
            state = begin_rest(program, fallen, secrets)
            moves, answers = [], []
            while state is not None and len(moves) < 9:
                self.assertEqual(state, walk.state())
                self.assertEqual(has_turn(program, state), walk.holder())
                self.assertEqual(rest_moves(program, fallen, state), tuple(walk.moves()))
                if not walk.moves():
                    break
                moves.append(rng.choice(walk.moves()))
                answer, state = rest_answered(program, fallen, state, moves[-1])
                self.assertEqual(answer, walk.does(moves[-1]))
                answers.append(answer)
                found[answer[0] if answer else ""] += 1
            self.assertEqual(state, walk.state())
            self.assertEqual(rest_play(program, fallen, secrets, moves), tuple(answers))
            if state is None:
                self.assertEqual(caught(Refused, rest_play, program, fallen, secrets, moves + [("back", 0)]), len(moves))
        self.assertGreater(min(found.values()), 40, found)


if __name__ == "__main__":
    unittest.main()
