"""[46], [48], [50] Plays by which programs part, pairs of states, plans, and who must not fall together."""

import itertools
import random
import unittest

from nomoreseen.crossings import crossings
from nomoreseen.errors import InvalidLink, InvalidLots, InvalidPlay, InvalidSecrets, InvalidSize, Refused
from nomoreseen.hearing import greatest_deaf, least_hearing, plans_of, plans_run, rest_pairs, rest_pairs_hold, rest_parting
from nomoreseen.linker import Program
from nomoreseen.modules import Book, Module
from nomoreseen.rests import begin_rest, rest_answered, rest_moves, rest_play
from tests.anything import caught, values
from tests.programs import random_fallen, random_program, random_secrets
from tests.test_compiler import variations
from tests.test_rests import BOOK, LINKS, PROGRAM, SECRETS, part

OTHERS = ((0,), (1,), (), ())


def slow_parting(one, other, fallen, secrets, others, most=4):
    """The least row of lawful moves that parts, by trying all rows; "long" if none so short does."""
    layer = [((), begin_rest(one, fallen, secrets), begin_rest(other, fallen, others))]
    for _ in range(most):
        behind = []
        for moves, state, later in layer:
            for move in rest_moves(one, fallen, state):
                out, after = rest_answered(one, fallen, state, move)
                told, afterwards = rest_answered(other, fallen, later, move)
                if out != told:
                    return moves + (move,)
                if after is not None:
                    behind.append((moves + (move,), after, afterwards))
        layer = sorted(behind, key=lambda told: told[0])
        if not layer:
            return None
        if len(layer) > 2000:
            break
    return "long"


def is_closed(one, other, fallen, first, value):
    known = set(value)
    if first not in known:
        return False
    for state, later in known:
        if rest_moves(one, fallen, state) != rest_moves(other, fallen, later):
            return False
        for move in rest_moves(one, fallen, state):
            out, after = rest_answered(one, fallen, state, move)
            told, afterwards = rest_answered(other, fallen, later, move)
            if out != told or (after is not None and (after, afterwards) not in known):
                return False
    return True


def changed_program(rng, program):
    """A program of the same frame in which one module has other rows."""
    for _ in range(30):
        at = rng.randrange(len(program.modules))
        module = program.modules[at]
        entries = []
        for entry in module.entries:
            rows = list(entry[5])
            place = rng.randrange(len(rows))
            if rows[place][0] == "set" or rows[place][0] == "add":
                rows[place] = rows[place][:2] + (0,)
            elif rows[place][0] in ("if", "copy"):
                rows[place] = ("go", place + 1)
            entries.append(entry[:5] + (tuple(rows),))
        made = Module(module.name, (), 0, (), module.cells, module.outs, entries)
        if made.told != module.told:
            modules = program.modules[:at] + (made,) + program.modules[at + 1:]
            return Program(program.book, modules, program.links, program.main)
    return program


class Partings(unittest.TestCase):
    def test_by_hand(self):
        told = (PROGRAM, PROGRAM)
        self.assertEqual(rest_parting(*told, ("root",), SECRETS, OTHERS), (("call", 0, 0),))
        self.assertIsNone(rest_parting(*told, ("left",), SECRETS, OTHERS))
        self.assertIsNone(rest_parting(*told, ("down",), SECRETS, ((0,), (2,), (), ())))
        self.assertIsNone(rest_parting(program=PROGRAM, other=PROGRAM, fallen=["right", "left"], secrets=list(SECRETS), others=OTHERS))
        # With the main one fallen its secrets are nobody's.
        self.assertIsNone(rest_parting(*told, ("root",), SECRETS, (None, (2,), (), ())))
        shown = part("down", "cell n num 3", "entry go x num 3 num 2", "local y num 2", "add n 1", "if n 2 4", "back y", "go 3", "set y 1", "back y")
        other = Program(BOOK, PROGRAM.modules[:3] + (shown,), LINKS, ("root", "run"))
        self.assertEqual(rest_parting(PROGRAM, other, ("left", "root"), SECRETS, SECRETS), (("call", 0, 0), ("call", 1, 0), ("call", 1, 0)))
        self.assertEqual(rest_parting(PROGRAM, other, ("root",), SECRETS, SECRETS), (("call", 0, 0), ("call", 0, 0)))
        self.assertIsNone(rest_parting(PROGRAM, other, ("right",), SECRETS, SECRETS))

    def test_beginnings(self):
        # What is unlike at once is heard by the move main.
        roots = [part("root", "secret s num 2", "out o num 2 num 2", "entry run x num 2 num 2", "call x o s", "back x")]
        leaf = part("leaf", "entry go x num 2 num 2", "back x")
        program = Program(BOOK, (roots[0], leaf), (("root", "o", "leaf", "go"),), ("root", "run"))
        self.assertEqual(rest_parting(program, program, ("leaf",), ((0,), ()), ((1,), ())), (("main",),))
        self.assertIsNone(rest_pairs(program, program, ("leaf",), ((0,), ()), ((1,), ())))

    def test_against_trying_all(self):
        rng = random.Random(46)
        found = {"alike": 0, "parted": 0, "long": 0, "slow": 0}
        for _ in range(400):
            program = random_program(rng)
            other = changed_program(rng, program) if rng.random() < 0.5 else program
            fallen = random_fallen(rng, program)
            secrets, others = random_secrets(rng, program), random_secrets(rng, other)
            told = (program, other, fallen, secrets, others)
            parting, pairs = rest_parting(*told), rest_pairs(*told)
            self.assertEqual((parting is None) + (pairs is None), 1)
            slow = slow_parting(*told)
            if slow == "long":
                found["slow"] += 1
            else:
                self.assertEqual(parting, slow)
            if parting is not None:
                found["parted"] += 1
                found["long"] += len(parting) > 1
                one, two = rest_play(program, fallen, secrets, parting), rest_play(other, fallen, others, parting)
                self.assertEqual((one[:-1], one[-1] == two[-1]), (two[:-1], False))
                continue
            found["alike"] += 1
            self.check_pairs(rng, told, pairs)
        self.assertGreater(min(found.values()), 10, found)

    def check_pairs(self, rng, told, pairs):
        program, other, fallen, secrets, others = told
        first = (begin_rest(program, fallen, secrets), begin_rest(other, fallen, others))
        self.assertEqual(pairs[0], first)
        self.assertEqual(len(set(pairs)), len(pairs))
        self.assertTrue(rest_pairs_hold(*told, pairs))
        self.assertTrue(rest_pairs_hold(*told, pairs[::-1] + pairs[:1]))
        self.assertTrue(is_closed(program, other, fallen, first, pairs))
        for thing in rng.sample(pairs, min(3, len(pairs))):
            # Each pair comes: without it the others are no such pairs.
            self.assertFalse(rest_pairs_hold(*told, tuple(pair for pair in pairs if pair != thing)))

    def test_too_many_pairs(self):
        lines = ["cell c%s num 3" % name for name in "abcdefgh"] + ["out o num 3 num 3", "entry run x num 3 num 3"]
        rows = []
        for at, name in enumerate("abcdefgh"):
            rows += ["add c%s 1" % name, "if c%s 0 %d" % (name, 3 * at + 3), "go 24"]
        root = part("root", *lines, *rows, "call x o x", "go 0")
        leaf = part("leaf", "entry go x num 3 num 3", "back x")
        program = Program(BOOK, (root, leaf), (("root", "o", "leaf", "go"),), ("root", "run"))
        told = (program, program, ("leaf",), ((), ()), ((), ()))
        self.assertEqual(caught(InvalidSize, rest_parting, *told), "states")
        self.assertEqual(caught(InvalidSize, rest_pairs, *told), "states")
        self.assertFalse(rest_pairs_hold(*told, ()))


class Pairs(unittest.TestCase):
    def test_forms(self):
        told = (PROGRAM, PROGRAM, ("down",), ((0,), (2,), (), ()), ((1,), (2,), (), ()))
        pairs = rest_pairs(*told)
        self.assertTrue(rest_pairs_hold(*told, pairs))
        self.assertEqual(len(pairs), 2)
        state, later = pairs[1]
        wrong = [list(pairs), pairs + ((),), pairs + ((state,),), pairs + ((state, later, later),), pairs + ([state, later],), pairs[1:], pairs[:1], ()]
        for value in wrong + values():
            self.assertIs(rest_pairs_hold(*told, value), False, value)
            self.assertIs(rest_pairs_hold(*told, pairs + (value,)), False)
            self.assertIs(rest_pairs_hold(*told, pairs + ((value, later),)), False)
        bad = [
            ((0,),) + state[1:], ((1,),) + state[1:], ((0, 1, 1),) + state[1:], ((0, 9),) + state[1:], ((0, True),) + state[1:],
            (state[0], state[1][:3], True), (state[0], state[1][:3] + (((), (), (), (), ()),), True), (state[0], state[1], False),
            (state[0], (None,) + state[1][1:], True), (state[0], state[1], 1), (state[0], state[1]),
        ]
        frames = state[1][0][4]
        for waiting in [(), frames * 2, ((0, 1, frames[0][2]),), ((0, 0, (0, 2)),), ((1, 0, (0, 0)),), ((0, 0, (0,)),)]:
            bad.append((state[0], (state[1][0][:4] + (waiting,),) + state[1][1:], True))
        bad.append((state[0], state[1][:2] + (state[1][2][:4] + (((0, 0, (0, 0)),),),) + state[1][3:], True))
        for value in bad:
            self.assertFalse(rest_pairs_hold(*told, pairs + ((value, later),)), value)
            self.assertFalse(rest_pairs_hold(*told, pairs + ((state, value),)), value)

    def test_pairs_that_do_not_come(self):
        told = (PROGRAM, PROGRAM, ("down",), ((0,), (2,), (), ()), ((1,), (2,), (), ()))
        pairs = rest_pairs(*told)

        def other_cells(state, number):
            left = ((2, number),) + state[1][1][1:]
            return (state[0], (state[1][0], left) + state[1][2:], state[2])

        def beginning(number):
            return tuple(other_cells(state, number) for state in pairs[0])

        def behind(number):
            return tuple(other_cells(state, number) for state in pairs[1])

        self.assertTrue(rest_pairs_hold(*told, pairs + (beginning(1), behind(1))))
        self.assertTrue(rest_pairs_hold(*told, pairs + (behind(2),)))
        self.assertTrue(rest_pairs_hold(*told, pairs + ((pairs[1][0], behind(1)[1]),)))
        self.assertFalse(rest_pairs_hold(*told, pairs + (beginning(1),)))
        # At unlike piles the lawful moves are others, or there is none.
        self.assertFalse(rest_pairs_hold(*told, pairs + ((pairs[0][0], pairs[1][1]),)))

    def test_frames_in_the_entry_that_was_called(self):
        root = part("root", "out p num 3 num 3", "out q num 3 num 3", "entry run x num 3 num 3", "call x p x", "call x q x", "back x")
        mid = part("mid", "out d num 3 num 3", "entry ea x num 3 num 3", "call x d x", "back x", "entry eb x num 3 num 3", "call x d x", "back x")
        leaf = part("leaf", "entry go x num 3 num 3", "back x")
        links = (("root", "p", "mid", "ea"), ("root", "q", "mid", "eb"), ("mid", "d", "leaf", "go"))
        program = Program(BOOK, (root, mid, leaf), links, ("root", "run"))
        told = (program, program, ("leaf",), ((),) * 3, ((),) * 3)
        pairs = rest_pairs(*told)
        self.assertTrue(rest_pairs_hold(*told, pairs))
        for state, later in pairs[1:]:
            entry, row, held = state[1][1][4][0]
            for frame, wanted in (((entry, row, (2,)), True), ((1 - entry, row, held), False)):
                changed = state[:1] + ((state[1][0], state[1][1][:4] + ((frame,),), None), True)
                self.assertIs(rest_pairs_hold(*told, pairs + ((changed, later),)), wanted)
                self.assertIs(rest_pairs_hold(*told, pairs + ((later, changed),)), wanted)

    def test_small_changes(self):
        rng = random.Random(47)
        for fallen in (("root",), ("left",), ("root", "down"), ("down",)):
            told = (PROGRAM, PROGRAM, fallen, ((0,), (2,), (), ()), ((0,), (2,), (), ()))
            pairs = rest_pairs(*told)
            for value in variations(pairs, rng, 250):
                holds = rest_pairs_hold(*told, value)
                self.assertIsInstance(holds, bool)
                if holds:
                    first = tuple(begin_rest(PROGRAM, fallen, told[3]) for _ in range(2))
                    self.assertTrue(is_closed(PROGRAM, PROGRAM, fallen, first, value))

    def test_errors(self):
        other = Program(BOOK, PROGRAM.modules[::-1], LINKS, ("root", "run"))
        turned = Program(BOOK, PROGRAM.modules, LINKS[::-1], ("root", "run"))
        kinds = Program(BOOK, PROGRAM.modules[:2] + (part("right", "entry go y num 2 num 3", "local z num 3", "back z"),) + PROGRAM.modules[3:], LINKS,
                        ("root", "run"))
        self.assertEqual(rest_parting(PROGRAM, kinds, ("left",), SECRETS, SECRETS), (("main",), ("back", 0)))
        head = Program(BOOK, (part("root", "secret s num 3", "out left num 3 num 3", "out right num 2 num 3", "entry run x num 2 num 3", "go 0"),)
                       + PROGRAM.modules[1:], LINKS, ("root", "run"))
        back = Program(BOOK, (part("root", "secret s num 3", "out left num 3 num 3", "out right num 2 num 3", "entry run x num 3 num 2", "go 0"),)
                       + PROGRAM.modules[1:], LINKS, ("root", "run"))
        name = Program(BOOK, PROGRAM.modules[:3] + (part("deep", "entry go x num 3 num 2", "go 0"),), LINKS[:1] + (("left", "down", "deep", "go"),)
                       + LINKS[2:], ("root", "run"))
        word = Program(Book(3, True, 0, True, False), PROGRAM.modules, LINKS, ("root", "run"))
        self.assertIsNone(rest_parting(PROGRAM, word, ("left",), SECRETS, SECRETS))
        wide = Program(Book(4, True, 0, True, False), PROGRAM.modules, LINKS, ("root", "run"))
        for call in (rest_parting, rest_pairs, lambda *told: rest_pairs_hold(*told, None)):
            for value in values() + [other, turned, head, back, name, wide]:
                if value is not PROGRAM:
                    self.assertEqual(caught(InvalidLink, call, PROGRAM, value, None, None, None), -1)
                    self.assertEqual(caught(InvalidLink, call, value, PROGRAM, None, None, None), -1)
            self.assertEqual(caught(InvalidLots, call, PROGRAM, kinds, ("up",), None, None), 0)
            self.assertEqual(caught(InvalidLots, call, PROGRAM, kinds, None, None, None), -1)
            self.assertEqual(caught(InvalidSecrets, call, PROGRAM, kinds, ("root",), ((), (3,), (), ()), None), 1)
            self.assertEqual(caught(InvalidSecrets, call, PROGRAM, kinds, ("root",), ((), (0,), (), ()), None), -1)
            self.assertEqual(caught(InvalidSecrets, call, PROGRAM, kinds, ("root",), ((), (0,), (), ()), ((), (), (), ())), 1)


class Plans(unittest.TestCase):
    def test_by_hand(self):
        moves = (("call", 0, 2), ("call", 1, 1), ("back", 1), ("call", 2, 0), ("back", 2), ("call", 0, 0), ("call", 1, 0))
        fallen = ("right", "left", "root")
        plans = plans_of(PROGRAM, fallen, SECRETS, moves)
        self.assertEqual(plans, ((("call", 0, 2), ("call", 2, 0), ("call", 0, 0)), (("call", 1, 1), ("back", 1), ("call", 1, 0)), (("back", 2),)))
        self.assertEqual(plans_run(PROGRAM, fallen, SECRETS, plans), rest_play(PROGRAM, fallen, SECRETS, moves))
        self.assertEqual(plans_of(PROGRAM, fallen, SECRETS, moves[:4]), ((("call", 0, 2), ("call", 2, 0)), (("call", 1, 1), ("back", 1)), ((),)))
        self.assertEqual(plans_of(PROGRAM, fallen, SECRETS, ()), (((),), (), ()))
        self.assertEqual(plans_of(PROGRAM, ("down",), SECRETS, ()), ((),))
        self.assertEqual(plans_of(PROGRAM, ("down",), SECRETS, [["main"]]), (((),),))
        self.assertEqual(plans_of(PROGRAM, ("down",), SECRETS, [["main"], ("back", 0)]), ((("back", 0),),))
        self.assertEqual(plans_of(program=PROGRAM, fallen=["down"], secrets=list(SECRETS), moves=()), ((),))

    def test_runs_that_end(self):
        run = plans_run
        fallen = ("root", "left")
        self.assertEqual(run(PROGRAM, fallen, SECRETS, ((), ())), ())
        self.assertEqual(run(PROGRAM, fallen, SECRETS, ([()], ())), ())
        self.assertEqual(run(PROGRAM, fallen, SECRETS, ([["call", 0, 0], (), ("call", 2, 0)], [("back", 1)])), ((), ()))
        self.assertEqual(run(PROGRAM, fallen, SECRETS, ([("call", 0, 0), ("call", 2, 0), ("call", 0, 9), ("call", 2, 0)], [("back", 1)])), ((), (), ("back", 2, 2)))
        self.assertEqual(run(PROGRAM, fallen, SECRETS, ([("call", 2, 1), ("call", 2, 1)], [])), (("never",),))
        self.assertEqual(run(PROGRAM, fallen, SECRETS, ([("main",)], [])), ())
        self.assertEqual(run(PROGRAM, fallen, SECRETS, ([None, ("call", 2, 0)], [])), ())
        self.assertEqual(run(PROGRAM, ("down",), SECRETS, ((),)), (("call", 1, 0),))
        self.assertEqual(run(program=PROGRAM, fallen=("down",), secrets=SECRETS, plans=[[("back", 0), ("back", 0)]]), (("call", 1, 0), ("over", 0)))

    def test_errors(self):
        for value in values():
            if not isinstance(value, Program):
                self.assertEqual(caught(InvalidLink, plans_of, value, None, None, None), -1)
                self.assertEqual(caught(InvalidLink, plans_run, value, None, None, None), -1)
            if not isinstance(value, (list, tuple)):
                self.assertEqual(caught(InvalidPlay, plans_of, PROGRAM, ("down",), SECRETS, value), -1)
                self.assertEqual(caught(InvalidPlay, plans_run, PROGRAM, ("down",), SECRETS, value), -1)
                self.assertEqual(caught(InvalidPlay, plans_run, PROGRAM, ("down", "left"), SECRETS, ((), value)), 1)
            plans_run(PROGRAM, ("root",), SECRETS, ((value,),))
        for call in (plans_of, plans_run):
            self.assertEqual(caught(InvalidLots, call, PROGRAM, ("down", "down"), None, None), 1)
            self.assertEqual(caught(InvalidSecrets, call, PROGRAM, ("down",), ((1,), (), (), ()), None), 1)
        for plans in ((), ((), ()), None, "x"):
            self.assertEqual(caught(InvalidPlay, plans_run, PROGRAM, ("down",), SECRETS, plans), -1)
        self.assertEqual(caught(Refused, plans_of, PROGRAM, ("down",), SECRETS, (("main",), ("back", 2))), 1)
        self.assertEqual(caught(Refused, plans_of, PROGRAM, ("down",), SECRETS, (("main",), ("back", 0), ("back", 0))), 2)

    def test_plans_do_their_play(self):
        rng = random.Random(48)
        longest = 0
        for _ in range(300):
            program = random_program(rng)
            fallen, secrets = random_fallen(rng, program), random_secrets(rng, program)
            state, moves = begin_rest(program, fallen, secrets), []
            while state is not None and len(moves) < rng.choice((3, 9)):
                lawful = rest_moves(program, fallen, state)
                if not lawful:
                    break
                moves.append(rng.choice(lawful))
                _, state = rest_answered(program, fallen, state, moves[-1])
            plans = plans_of(program, fallen, secrets, moves)
            self.assertEqual(len(plans), len(fallen))
            done = len(moves) - (("main",) in moves)
            self.assertEqual(sum(len(plan) for plan in plans) - sum(plan.count(()) for plan in plans), done)
            self.assertEqual(sum(plan.count(()) for plan in plans), int(state is not None and state[2]))
            if moves or state[2]:
                self.assertEqual(plans_run(program, fallen, secrets, plans), rest_play(program, fallen, secrets, moves))
            longest = max(longest, len(moves))
        self.assertGreater(longest, 6)


class Lots(unittest.TestCase):
    def slow(self, program, secrets, others):
        """Whether each lot hears, by looking at each by itself."""
        names = [module.name for module in program.modules]
        told = {}
        for many in range(len(names) + 1):
            for lot in itertools.combinations(range(len(names)), many):
                fallen = [names[at] for at in lot]
                if many == len(names) or any(secrets[at] != others[at] for at in lot):
                    told[lot] = True
                else:
                    told[lot] = many > 0 and rest_parting(program, program, fallen, secrets, others) is not None
        return names, told

    def check(self, program, secrets, others):
        names, told = self.slow(program, secrets, others)
        hearing = [lot for lot in told if told[lot]]
        least = sorted(lot for lot in hearing if not any(set(one) < set(lot) for one in hearing))
        deaf = [lot for lot in told if not told[lot]]
        greatest = sorted(lot for lot in deaf if not any(set(lot) < set(one) for one in deaf))
        self.assertEqual(least_hearing(program, secrets, others), tuple(tuple(names[at] for at in lot) for lot in least))
        self.assertEqual(greatest_deaf(program, secrets, others), tuple(tuple(names[at] for at in lot) for lot in greatest))
        lacking = [tuple(at for at in range(len(names)) if at not in lot) for lot in greatest]
        self.assertEqual(crossings(len(names), lacking), tuple(least))
        return least

    def test_by_hand(self):
        self.assertEqual(self.check(PROGRAM, SECRETS, ((1,), (0,), (), ())), [(0,), (1,)])
        self.assertEqual(greatest_deaf(PROGRAM, SECRETS, ((1,), (0,), (), ())), (("right", "down"),))
        self.assertEqual(self.check(PROGRAM, SECRETS, SECRETS), [(0, 1, 2, 3)])
        self.assertEqual(least_hearing(program=PROGRAM, secrets=SECRETS, others=[list(row) for row in SECRETS]), (("root", "left", "right", "down"),))
        self.assertEqual(len(greatest_deaf(PROGRAM, SECRETS, SECRETS)), 4)
        root = part("root", "secret s num 2", "out o num 2 num 2", "entry run x num 2 num 2", "call x o s", "back x")
        leaf = part("leaf", "entry go x num 2 num 2", "back x")
        program = Program(BOOK, (leaf, root), (("root", "o", "leaf", "go"),), ("root", "run"))
        self.assertEqual(least_hearing(program, ((), (0,)), ((), (1,))), (("leaf",), ("root",)))
        self.assertEqual(greatest_deaf(program, ((), (0,)), ((), (1,))), ((),))

    def test_against_trying_all_lots(self):
        rng = random.Random(50)
        met = {}
        for _ in range(120):
            program = random_program(rng)
            secrets, others = random_secrets(rng, program), list(random_secrets(rng, program))
            keep = rng.randrange(len(program.modules))
            others = tuple(row if at == keep else told for at, (row, told) in enumerate(zip(others, secrets)))
            least = self.check(program, secrets, others)
            met[len(least)] = met.get(len(least), 0) + 1
        self.assertGreater(len(met), 2, met)

    def test_errors(self):
        for call in (least_hearing, greatest_deaf):
            for value in values():
                if not isinstance(value, Program):
                    self.assertEqual(caught(InvalidLink, call, value, None, None), -1)
                caught(InvalidSecrets, call, PROGRAM, value, None)
                caught(InvalidSecrets, call, PROGRAM, SECRETS, value)
            self.assertEqual(caught(InvalidSecrets, call, PROGRAM, ((3,), (0,), (), ()), None), 0)
            self.assertEqual(caught(InvalidSecrets, call, PROGRAM, ((1,), (0,), (), (0,)), None), 3)
            self.assertEqual(caught(InvalidSecrets, call, PROGRAM, SECRETS, ((1,), None, (), ())), 1)


if __name__ == "__main__":
    unittest.main()
