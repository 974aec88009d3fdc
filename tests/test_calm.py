"""[38] Two secrets on the machine, some guards left out."""

import itertools
import random
import unittest

from nomoreseen.calm import calm_holds, calm_paper, deep_leak, pile_steps
from nomoreseen.compiler import compiled
from nomoreseen.errors import InvalidBook, InvalidModule, InvalidSecrets, InvalidSize, InvalidSpots
from nomoreseen.machine import entered, first_room
from nomoreseen.modules import Book, Module
from nomoreseen.piles import alike_paper
from nomoreseen.spots import spots
from nomoreseen.webs import need_web
from tests import makers
from tests.anything import caught, values
from tests.scripts import random_deed
from tests.test_compiler import variations
from tests.test_machine import module_of

HAND = Book(3, True, 0, True, False)
INSIDE = Book(3, True, 0, True, True)
MODULE = module_of("room 0", "secret s num 2", "cell z num 2", "out g num 2 num 2", "entry e p num 2 num 2", "local t num 2", "if s 0 3",
                   "call t g z", "go 4", "call t g z", "back z")


def guarded(book, module, bare):
    return compiled(book, module, [spot for spot in spots(book, module) if spot not in [tuple(told) for told in bare]])


def sights(code, secrets, script):
    room, seen = first_room(code, secrets), []
    for deed in script:
        sight, room = entered(code, room, deed)
        seen.append(sight)
        if room is None:
            break
    return seen


def is_calm(code, first, value):
    """Whether opens and waits that are such by their form are closed, read off the words of [36] and [38]."""
    opens, waits = set(value[0]), set(value[1])
    words = range(code.book.word)
    size = [1 + len(code.module.entries[entry][4]) for entry, _ in code.module.calls()]
    wanted_opens, wanted_waits = {((first, False), first)}, set()

    def asked(level, bases, piles, deed):
        found = [entered(code, base + pile, deed) for base, pile in zip(bases, piles)]
        if found[0][0] != found[1][0]:
            return False
        if found[0][1] is not None:
            behind = tuple(room[:3] for _, room in found)
            if found[0][0][0][0] == "back":
                wanted_opens.add((level, behind))
            else:
                frames = tuple((room[3][-1], room[4][-1] if len(room[3][-1]) == 1 else ()) for _, room in found)
                wanted_waits.add((level, frames, behind))
        return True

    right = True
    for level, bases in opens:
        pile = (((0, (0,) * size[0]),), ()) if level[1] else ((), ())
        deeds = [("call", entry[0], word, ()) for entry in code.module.entries for word in words]
        deeds += [] if level[1] else [("back", word, ()) for word in words]
        for deed in deeds:
            right = asked(level, bases, (pile, pile), deed) and right
    for level, frames, bases in waits:
        wanted_opens.add(((bases, True), bases))
        for above, later in opens:
            if above != (bases, True):
                continue
            for word in words:
                for laid in itertools.product(words, repeat=len(frames[0][1])):
                    piles = [((row,), (laid,) if len(row) == 1 else ()) for row, _ in frames]
                    right = asked(level, later, piles, ("back", word, ())) and right
    return right and wanted_opens <= opens and wanted_waits <= waits


class ByHand(unittest.TestCase):
    def test_only_the_wiping_at_the_call_is_needed(self):
        every = spots(HAND, MODULE)
        for many in range(len(every) + 1):
            for bare in itertools.combinations(every, many):
                told = (HAND, MODULE, bare, (0,), (1,))
                paper, script = calm_paper(*told), deep_leak(*told)
                self.assertEqual((paper is None, script is not None), (("wipe", "g") in bare,) * 2)
                if paper is None:
                    self.assertIsNone(pile_steps(*told))
                else:
                    self.assertTrue(calm_holds(*told, paper))
        self.assertEqual(deep_leak(HAND, MODULE, [["wipe", "g"]], [0], [1]), (("call", "e", 0, ()),))

    def test_paper(self):
        paper = calm_paper(HAND, MODULE, (), (0,), (1,))
        first = (((0, 0), (), ()), ((1, 0), (), ()))
        level = (first, False)
        waits = {(level, (((1, (p, 0)), ()), ((0, (p, 0)), ())), first) for p in (0, 1)}
        self.assertEqual((set(paper[0]), set(paper[1])), ({(level, first), ((first, True), first)}, waits))
        # Three calls without a frame beside each other: as it lies open, it is told in a frame's second part.
        laid = calm_paper(HAND, MODULE, (("frame", "g"),), (0,), (1,))
        self.assertEqual(set(laid[1]), {(level, (((1,), (p, 0)), ((0,), (p, 0))), first) for p in (0, 1)})
        self.assertTrue(calm_holds(HAND, MODULE, (("frame", "g"),), (0,), (1,), laid))
        self.assertFalse(calm_holds(HAND, MODULE, (("frame", "g"),), (0,), (1,), paper))

    def test_steps(self):
        self.assertEqual(pile_steps(HAND, MODULE, (), (0,), (1,)), ((0, 1, 0, 1),))
        steps = pile_steps(HAND, MODULE, (("alone", "e"),), (0,), (1,))
        self.assertEqual(steps, ((0, 1, 0, 1), (1, 1, 0, 1)))
        self.assertEqual(pile_steps(INSIDE, MODULE, (), (0,), (1,)), steps)
        self.assertEqual(pile_steps(INSIDE, MODULE, (), (1,), (0,)), ((0, 0, 1, 1), (1, 0, 1, 1)))
        self.assertEqual(need_web((2, tuple((a, b + 1, c + 1, d) for a, b, c, d in steps))), (2, ((0, 2, 1, 1), (1, 2, 1, 1))))
        plain = module_of("room 0", "secret s num 3", "entry e x num 3 num 3", "back x")
        self.assertEqual(pile_steps(HAND, plain, (), (0,), (1,)), ())

    def test_frames_that_are_changed(self):
        # What is laid open is the same; only a changed local shows the secret.
        module = module_of("room 0", "secret s num 2", "out g num 3 num 3", "entry e x num 3 num 3", "local t num 3", "call x g x",
                           "if t 2 3", "back x", "if s 0 2", "set x 0", "back x")
        script = deep_leak(HAND, module, (("frame", "g"),), (0,), (1,))
        code = guarded(HAND, module, (("frame", "g"),))
        one, other = sights(code, (0,), script), sights(code, (1,), script)
        self.assertEqual((one[:-1], one[-1] == other[-1]), (other[:-1], False))
        self.assertIn((0, 1, 2), script[-1][-1])
        self.assertIsNone(deep_leak(HAND, module, (), (0,), (1,)))

    def test_deeper_frames(self):
        # Two calls wait; the frame that shows it is the older one.
        module = module_of("room 0", "secret s num 2", "cell n num 2", "out g num 3 num 3", "out h num 3 num 3", "entry e x num 3 num 3",
                           "local t num 3", "if n 1 5", "set n 1", "call x g x", "if t 2 7", "back x", "call x h x", "back x", "if s 0 4", "set x 0",
                           "back x")
        bare = (("frame", "g"), ("frame", "h"))
        script = deep_leak(INSIDE, module, bare, (0,), (1,))
        code = guarded(INSIDE, module, bare)
        one, other = sights(code, (0,), script), sights(code, (1,), script)
        self.assertEqual((one[:-1], one[-1] == other[-1]), (other[:-1], False))

    def test_backs_while_nothing_waits(self):
        module = module_of("room 0", "secret s num 2", "out g num 3 num 3", "entry e x num 3 num 3", "go 3", "call x g x", "if s 0 3", "back x",
                           "set x 0", "back x")
        self.assertIsNone(deep_leak(HAND, module, (), (0,), (1,)))
        self.assertIsNone(deep_leak(HAND, module, (("idle", ""),), (0,), (1,)))
        module = module_of("room 0", "secret s num 2", "out g num 3 num 3", "entry e x num 3 num 3", "go 4", "call x g x", "if s 0 4", "set x 0",
                           "back x")
        self.assertIsNone(deep_leak(HAND, module, (), (0,), (1,)))
        script = deep_leak(HAND, module, (("idle", ""),), (0,), (1,))
        self.assertEqual((len(script), script[0][0], script[0][-1]), (1, "back", ()))

    def test_calls_amid_a_call(self):
        module = module_of("room 0", "secret s num 2", "cell n num 2", "out g num 3 num 3", "entry e x num 3 num 3", "if n 1 5", "set n 1",
                           "call x g x", "set n 0", "back x", "if s 0 4", "set x 0", "back x")
        self.assertIsNone(deep_leak(HAND, module, (), (0,), (1,)))
        script = deep_leak(HAND, module, (("alone", "e"),), (0,), (1,))
        self.assertEqual([deed[0] for deed in script], ["call", "call"])
        self.assertIsNotNone(deep_leak(INSIDE, module, (), (0,), (1,)))

    def test_forged_things_and_wide_words(self):
        book = Book(4, True, 2, False, False)
        module = module_of("class box 2", "room 2", "secret s num 2", "cell b thing box", "entry make x num 2 num 2", "make b box s", "back x",
                           "entry read c thing box num 2", "local t num 2", "read t c", "back t", "entry wide x num 2 num 2", "if x 0 3", "if x 1 3",
                           "if s 0 3", "back x", "entry same c thing box num 2", "local t num 2", "same c b 2", "set t 1", "back t")
        cases = {
            ("given", "read"): 2, ("below", "wide"): 0, ("wipe", "make"): 1, ("wipe", "read"): 0, ("number", ""): 0, ("given", "same"): 0,
            ("wipe", "wide"): 0,
        }
        for spot in cases:
            script = deep_leak(book, module, (spot,), (0,), (1,))
            self.assertEqual(0 if script is None else len(script), cases[spot], spot)
        self.assertIsNone(deep_leak(book, module, (), (0,), (1,)))
        script = deep_leak(book, module, (("below", "wide"), ("wipe", "wide")), (0,), (1,))
        self.assertEqual((len(script), script[0][2] > 1), (1, True))


class Papers(unittest.TestCase):
    def test_random_guests(self):
        rng = random.Random(38)
        found = {"papers": 0, "leaks": 0, "long": 0, "cut": 0, "bare": 0}
        for _ in range(1000):
            book = makers.random_book(rng, (3,))
            module = makers.random_guest(rng, book, makers.random_doors(rng, book), rows=5)
            every = spots(book, module)
            if len(module.all_secrets()) < 2 or sum(len(entry[4]) for entry in module.entries) > 12:
                continue
            secrets, others = rng.sample(module.all_secrets(), 2)
            small = all(len(module.entries[entry][4]) < 4 for entry, _ in module.calls())
            bare = tuple(spot for spot in every if rng.random() < 0.3 and (small or spot[0] != "frame"))
            told = (book, module, bare, secrets, others)
            try:
                paper, script = calm_paper(*told), deep_leak(*told)
            except InvalidSize as error:
                self.assertEqual(error.word, "opens")
                continue
            self.assertEqual((paper is None) + (script is None), 1)
            code = guarded(book, module, bare)
            if script is not None:
                one, other = sights(code, secrets, script), sights(code, others, script)
                self.assertEqual((len(one), one[:-1], one[-1] == other[-1]), (len(script), other[:-1], False))
                found["leaks"] += 1
                found["long"] += len(script) > 1
                continue
            found["papers"] += 1
            found["bare"] += len(bare) > 0
            self.assertTrue(calm_holds(*told, paper))
            self.check_steps(told, paper)
            for _ in range(5):
                script, room = [], first_room(code, secrets)
                while room is not None and len(script) < 6:
                    script.append(random_deed(rng, code, room))
                    room = entered(code, room, script[-1])[1]
                self.assertEqual(sights(code, secrets, script), sights(code, others, script))
            if len(paper[0]) + len(paper[1]) < 60:
                found["cut"] += self.cut(rng, code, told, paper)
        self.assertGreater(min(found.values()), 2, found)

    def check_steps(self, told, paper):
        steps = pile_steps(*told)
        self.assertEqual(list(steps), sorted(set(steps)))
        calls = sorted({(one[0][0], other[0][0]) for _, (one, other), _ in paper[1]})
        self.assertEqual(sorted({step[1:3] for step in steps}), calls)
        levels = {step[0] for step in steps} | {step[3] for step in steps} | {0}
        self.assertEqual(levels, set(range(len({level for level, _ in paper[0]}))))
        # Some numbering of the levels, the first one 0, makes these the steps of the waits.
        if len(levels) <= 6:
            named = sorted({level for level, _ in paper[0]}, key=repr)
            first = (tuple((first_room(guarded(*told[:3]), secrets)[:3]) for secrets in told[3:]), False)
            others = [level for level in named if level != first]
            waits = [(level, one[0][0], other[0][0], (bases, True)) for level, (one, other), bases in paper[1]]
            orders = ({first: 0, **{level: at + 1 for at, level in enumerate(order)}} for order in itertools.permutations(others))
            self.assertTrue(any(tuple(sorted({(at[w[0]], w[1], w[2], at[w[3]]) for w in waits})) == steps for at in orders))

    def cut(self, rng, code, told, paper):
        first = tuple(first_room(code, secrets)[:3] for secrets in told[3:])
        self.assertTrue(is_calm(code, first, paper))
        for at in (0, 1):
            for thing in rng.sample(paper[at], min(2, len(paper[at]))):
                left = paper[:at] + (tuple(part for part in paper[at] if part != thing),) + paper[at + 1:]
                self.assertEqual(calm_holds(*told, left), is_calm(code, first, left))
                turned = tuple(part[::-1] + part[:1] for part in paper)
                self.assertTrue(calm_holds(*told, turned))
        return 1

    def test_small_changes(self):
        rng = random.Random(39)
        for book, bare in ((HAND, ()), (HAND, (("frame", "g"),)), (INSIDE, (("frame", "g"), ("idle", "")))):
            told = (book, MODULE, bare, (0,), (1,))
            paper = calm_paper(*told)
            for value in variations(paper, rng, 300):
                holds = calm_holds(*told, value)
                self.assertIsInstance(holds, bool)
                if holds:
                    self.assertEqual([set(part) >= set(there) for part, there in zip(value, paper)], [True, True])

    def test_things_that_do_not_come(self):
        told = (HAND, MODULE, (("frame", "g"),), (0,), (1,))
        paper = calm_paper(*told)
        lonely = (((0, 1), (), ()), ((1, 1), (), ()))
        self.assertFalse(calm_holds(*told, (paper[0] + (((lonely, False), lonely),), paper[1])))
        # All calls are stopped by alone where something waits: such an open asks for nothing.
        more = paper[0] + (((lonely, True), lonely),)
        self.assertTrue(calm_holds(*told, (more, paper[1])))
        right = (((0,), (0, 2)), ((1,), (0, 2)))
        wait = ((lonely, True), right, lonely)
        self.assertTrue(calm_holds(*told, (more, paper[1] + (wait,))))
        self.assertFalse(calm_holds(*told, (paper[0], paper[1] + (wait,))))
        # A frame may have been kept though this code lays it: any rooms of the code count.
        kept = (((0, (0, 2)), ()), ((1, (1, 2)), ()))
        level, bases = paper[0][0]
        value = (paper[0], paper[1] + ((level, kept, bases),))
        self.assertEqual((calm_holds(*told, value), calm_closed(told, value)), (True, True))
        for frames in [
            (((0,), (0, 2)), ((1,), (0, 1))), (((0,), (0,)), ((1,), (0,))), (((2,), (0, 2)), ((1,), (0, 2))), (((0,), ()), ((1,), ())),
            (((0, (0, 2)), (0, 2)), ((1, (0, 2)), (0, 2))), (((0, (0, 3)), ()), ((1, (0, 2)), ())), (((0,), (0, 2)),), (((0,), (0, 3)), ((1,), (0, 3))),
            (((0, (0, 2), 0), ()), ((1, (0, 2)), ())), (((0, (0, 2)), ()), ((1,), (0, 2))), ([(0,), (0, 2)], ((1,), (0, 2))),
        ]:
            self.assertFalse(calm_holds(*told, (more, paper[1] + ((level, frames, bases),))), frames)

    def test_frames_of_one_copy_alone(self):
        # What the one keeps in its frame comes to a hidden cell; the other keeps nothing.
        module = module_of("room 0", "secret s num 2", "cell n num 3", "out g num 3 num 3", "entry e x num 3 num 3", "local t num 3", "local b num 3",
                           "if s 1 3", "copy t x", "go 3", "set x 0", "call b g x", "copy n t", "set b 0", "back b")
        code = guarded(HAND, module, ())
        for secrets, others, at in (((0,), (1,), 0), ((1,), (0,), 1)):
            told = (HAND, module, (), secrets, others)
            paper = calm_paper(*told)
            self.assertEqual({bases[at][0][1] for _, bases in paper[0]}, {0, 1, 2})
            self.assertEqual({bases[1 - at][0][1] for _, bases in paper[0]}, {0})
            first = tuple(first_room(code, row)[:3] for row in (secrets, others))
            self.assertTrue(is_calm(code, first, paper))
            for thing in paper[0]:
                self.assertFalse(calm_holds(*told, (tuple(part for part in paper[0] if part != thing), paper[1])))

    def test_an_open_frame_above_a_kept_one(self):
        module = module_of("room 0", "secret s num 2", "out g num 3 num 3", "out h num 3 num 3", "entry e x num 3 num 3", "call x g x", "back x",
                           "entry f x num 3 num 3", "local t num 3", "local c num 2", "call x h x", "if t 0 5", "if t 1 5", "if s 0 5", "go 4",
                           "set x 0", "back x")
        bare = (("frame", "h"),)
        script = deep_leak(INSIDE, module, bare, (0,), (1,))
        code = guarded(INSIDE, module, bare)
        one, other = sights(code, (0,), script), sights(code, (1,), script)
        self.assertEqual((one[:-1], one[-1] == other[-1]), (other[:-1], False))
        # Only amid a call of g that waits, whose frame is kept, f may be called.
        module = module_of("room 0", "secret s num 2", "cell n num 2", "out g num 3 num 3", "out h num 3 num 3", "entry e x num 3 num 3",
                           "set n 1", "call x g x", "set n 0", "back x", "entry f x num 3 num 3", "local t num 3", "if n 0 0", "call x h x", "if t 2 4",
                           "back x", "if s 0 3", "set x 0", "back x")
        script = deep_leak(INSIDE, module, bare, (0,), (1,))
        code = guarded(INSIDE, module, bare)
        one, other = sights(code, (0,), script), sights(code, (1,), script)
        self.assertEqual((one[:-1], one[-1] == other[-1], len(script)), (other[:-1], False, 3))
        self.assertTrue(all(change[0] == 0 for change in script[-1][-1]))

    def test_waits_that_are_none(self):
        module = module_of("room 0", "secret s num 2", "out g num 3 num 3", "out h num 3 num 3", "entry e x num 3 num 3", "if s 0 3", "call x g x", "go 2",
                           "call x g x", "go 4", "entry f x num 3 num 3", "call x h x", "go 1")
        told = (HAND, module, (), (0,), (1,))
        paper = calm_paper(*told)
        level, frames, bases = next(wait for wait in paper[1] if wait[1][0][0][0] == 1)
        self.assertEqual(frames[1][0][0], 0)
        right = (level, (((1, (2,)), ()), ((0, (1,)), ())), bases)
        self.assertTrue(calm_holds(*told, (paper[0], paper[1] + (right,))))
        unlike = (((2, (2,)), ()), ((0, (1,)), ()))
        wrong = [(level, unlike, bases), (level, unlike[::-1], bases), ((level[0], 1), frames, bases), ((level[0], None), frames, bases), (level[0], frames, bases),
                 ((), frames, bases), (((level[0][0], ((9,), (), ())), True), frames, bases), (level, frames, (bases[0],)), (level, frames, 5)]
        for wait in wrong:
            self.assertFalse(calm_holds(*told, (paper[0], paper[1] + (wait,))), wait)
        for flag in (0, 1, None, "", ()):
            self.assertFalse(calm_holds(*told, (paper[0] + (((level[0], flag), bases),), paper[1])))
        for value in (None, 5, "ab", MODULE):
            self.assertFalse(calm_holds(*told, (value, paper[1])))
            self.assertFalse(calm_holds(*told, (paper[0], value)))

    def test_wrong_bases(self):
        book = Book(3, True, 2, False, False)
        module = module_of("class box 3", "class jar 3", "room 1", "secret s num 2", "entry e x num 3 num 3", "back x")
        told = (book, module, (), (0,), (1,))
        paper = calm_paper(*told)
        good = [((0,), ((1, 2),), ((2, 1), (1, 0))), ((2,), (), ())]
        bad = [((3,), (), ()), ((0,), ((2, 0),), ()), ((0,), ((0, 3),), ()), ((0,), ((0, 0), (0, 0)), ()), ((0,), (), ((3, 0),)),
               ((0,), (), ((0, 0),)), ((0,), (), ((1, 2),)), ((0,), (), ((1, 0), (1, 1))), ((0,), ()), ((0, 0), (), ()), ((True,), (), ())]
        for base, wanted in [(base, True) for base in good] + [(base, False) for base in bad]:
            for bases in ((base, good[1]), (good[1], base)):
                self.assertIs(calm_holds(*told, (paper[0] + (((bases, False), bases),), ())), wanted, base)
                self.assertIs(calm_holds(*told, (paper[0] + (((bases, True), paper[0][0][1]),), ())), wanted, base)


def calm_closed(told, value):
    code = guarded(*told[:3])
    return is_calm(code, tuple(first_room(code, secrets)[:3] for secrets in told[3:]), value)


class Errors(unittest.TestCase):
    def check(self, error, *told):
        kept = {caught(error, calm_paper, *told), caught(error, deep_leak, *told), caught(error, pile_steps, *told),
                caught(error, calm_holds, *told, None)}
        self.assertEqual(len(kept), 1)
        return kept.pop()

    def test_each_in_its_order(self):
        for value in values():
            if not isinstance(value, Book):
                self.assertEqual(self.check(InvalidBook, value, None, 0, 0, 0), "book")
            if not isinstance(value, Module):
                self.assertEqual(self.check(InvalidModule, HAND, value, 0, 0, 0), ("module",))
            if value not in ((0,), [0]):
                self.assertEqual(self.check(InvalidSecrets, HAND, MODULE, 0, value, value), 0)
                self.assertEqual(self.check(InvalidSecrets, HAND, MODULE, 0, (0,), value), 1)
            if value not in ((), []):
                self.check(InvalidSpots, HAND, MODULE, value, (0,), (1,))
        self.assertEqual(self.check(InvalidModule, Book(3, True, 0, False, False), MODULE, 0, 0, 0), ("outs", 0))
        self.assertEqual(self.check(InvalidSpots, HAND, MODULE, (("wipe", "g"), ("wipe", "f")), (0,), (1,)), 1)
        self.assertEqual(self.check(InvalidSpots, HAND, MODULE, (("wipe", "g"), ("idle", ""), ["wipe", "g"]), (0,), (1,)), 2)
        self.assertEqual(self.check(InvalidSpots, HAND, MODULE, "wipe", (0,), (1,)), -1)

    def test_any_values_as_papers(self):
        told = (HAND, MODULE, (), (0,), (1,))
        paper = calm_paper(*told)
        for value in values() + [list(paper), (list(paper[0]), paper[1]), paper + ((),), paper[:1], (paper[1], paper[0]), ((), ()), (paper[0], None)]:
            self.assertIs(calm_holds(*told, value), False, value)
            for at in (0, 1):
                self.assertIs(calm_holds(*told, paper[:at] + ((value,) + paper[at],) + paper[at + 1:]), False)

    def test_names_and_lists(self):
        told = {"book": HAND, "module": MODULE, "bare": [["idle", ""]], "secrets": [0], "others": [1]}
        self.assertTrue(calm_holds(**told, value=calm_paper(**told)))
        self.assertEqual((deep_leak(**told), pile_steps(**told)), (None, ((0, 1, 0, 1),)))

    def test_too_many_opens(self):
        lines = ["room 0", "secret s num 2"] + ["cell c%s num 5" % name for name in "abcdef"] + ["entry e x num 5 num 5"]
        rows = []
        for at, name in enumerate("abcdef"):
            rows += ["add c%s 1" % name, "if c%s 0 %d" % (name, 3 * at + 3), "back x"]
        book, module = Book(5, True, 0, False, False), module_of(*lines, *rows, "back x")
        for call in (calm_paper, deep_leak, pile_steps):
            self.assertEqual(caught(InvalidSize, call, book, module, (), (0,), (1,)), "opens")
        self.assertFalse(calm_holds(book, module, (), (0,), (1,), ((), ())))

    def test_all_guarded_is_as_in_the_language(self):
        rng = random.Random(40)
        parted = 0
        for _ in range(150):
            book = makers.random_book(rng, (3,))
            module = makers.random_guest(rng, book, makers.random_doors(rng, book))
            if len(module.all_secrets()) < 2:
                continue
            secrets, others = rng.sample(module.all_secrets(), 2)
            try:
                alike = alike_paper(book, module, module, secrets, others) is not None
                self.assertEqual(calm_paper(book, module, (), secrets, others) is not None, alike)
            except InvalidSize:
                continue
            parted += not alike
        self.assertGreater(parted, 5)


if __name__ == "__main__":
    unittest.main()
