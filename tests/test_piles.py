"""[36], [37] Guests that are alike, whatever waits, and papers of it."""

import random
import unittest

from nomoreseen.errors import InvalidBook, InvalidModule, InvalidSecrets, InvalidSize
from nomoreseen.modules import Book, Module
from nomoreseen.piles import alike_holds, alike_paper, deep_play
from nomoreseen.plain import begin
from tests import makers
from tests.anything import caught, values
from tests.naive_pairs import is_paper, parts
from tests.test_compiler import variations
from tests.test_machine import module_of

OUTS = Book(3, True, 0, True, False)
INSIDE = Book(3, True, 0, True, True)
ALIKE = module_of("room 0", "secret s num 2", "cell z num 2", "out g num 2 num 2", "entry e p num 2 num 2", "local t num 2", "if s 0 3",
                  "call t g z", "go 4", "call t g z", "back z")
DEEP = module_of("room 0", "secret s num 3", "cell n num 3", "out g num 3 num 3", "entry e x num 3 num 3", "add n 1", "if n 0 5", "call x g x",
                 "set n 0", "back x", "back s")


class Papers(unittest.TestCase):
    def test_by_hand(self):
        # Two secrets of one guest: which row calls is seen by nobody.
        paper = alike_paper(OUTS, ALIKE, ALIKE, (0,), (1,))
        first = (((0, 0), (), (), ()), ((1, 0), (), (), ()))
        level = (first, False)
        waits = [(level, ((0, 3, (p, 0)), (0, 1, (p, 0))), first) for p in (0, 1)]
        opens = [(level, first), ((first, True), first)]
        self.assertEqual((sorted(paper[0]), sorted(paper[1])), (sorted(opens), sorted(waits)))
        self.assertTrue(alike_holds(OUTS, ALIKE, ALIKE, (0,), (1,), paper))
        self.assertIsNone(deep_play(OUTS, ALIKE, ALIKE, (0,), (1,)))
        self.assertTrue(alike_holds(OUTS, ALIKE, ALIKE, (0,), (1,), (tuple(opens[::-1]) * 2, tuple(waits[::-1]) + tuple(waits))))
        for at in range(2):
            self.assertFalse(alike_holds(OUTS, ALIKE, ALIKE, (0,), (1,), ((opens[at],), tuple(waits))))
            self.assertFalse(alike_holds(OUTS, ALIKE, ALIKE, (0,), (1,), (tuple(opens), (waits[at],))))
        self.assertFalse(alike_holds(OUTS, ALIKE, ALIKE, (1,), (0,), paper))
        self.assertFalse(alike_holds(OUTS, ALIKE, ALIKE, (0,), (0,), paper))

    def test_calls_inside(self):
        play = deep_play(INSIDE, DEEP, DEEP, (0,), (1,))
        self.assertTrue(parts(INSIDE, DEEP, DEEP, (0,), (1,), play))
        self.assertEqual([move[0] for move in play[:3]], ["call"] * 3)
        self.assertIsNone(alike_paper(INSIDE, DEEP, DEEP, (0,), (1,)))
        # The book that is not inside never comes so deep.
        self.assertIsNone(deep_play(OUTS, DEEP, DEEP, (0,), (1,)))
        paper = alike_paper(INSIDE, ALIKE, ALIKE, (0,), (1,))
        self.assertTrue(alike_holds(INSIDE, ALIKE, ALIKE, (0,), (1,), paper))
        self.assertFalse(alike_holds(INSIDE, ALIKE, ALIKE, (0,), (1,), alike_paper(OUTS, ALIKE, ALIKE, (0,), (1,))))

    def test_things_that_do_not_come(self):
        paper = alike_paper(OUTS, ALIKE, ALIKE, (0,), (1,))
        other = (((0, 1), (), (), ()), ((1, 1), (), (), ()))
        more = tuple((level, bases) for level in ((other, False),) for bases in (other,))
        frames = [((0, 3, (p, 0)), (0, 1, (p, 0))) for p in (0, 1)]
        whole = (paper[0] + more + (((other, True), other),), paper[1] + tuple(((other, False), frame, other) for frame in frames))
        self.assertTrue(alike_holds(OUTS, ALIKE, ALIKE, (0,), (1,), whole))
        self.assertFalse(alike_holds(OUTS, ALIKE, ALIKE, (0,), (1,), (paper[0] + more, paper[1])))
        # Bases with which the two are unlike stand in no paper.
        uneven = (other[0], first_base(ALIKE, (1,)))
        self.assertFalse(alike_holds(OUTS, ALIKE, ALIKE, (0,), (1,), (paper[0] + (((uneven, False), uneven),), paper[1])))
        # But those above which nothing is asked do: a wait's level has opens only where something waits.
        lonely = ((other, True), other)
        self.assertTrue(alike_holds(OUTS, ALIKE, ALIKE, (0,), (1,), (paper[0] + (lonely,), paper[1])))
        self.assertFalse(alike_holds(INSIDE, ALIKE, ALIKE, (0,), (1,), (paper[0] + (lonely,), paper[1])))

    def test_forms(self):
        paper = alike_paper(OUTS, ALIKE, ALIKE, (0,), (1,))
        level = paper[0][0][0]
        wrong = [
            list(paper), (list(paper[0]), paper[1]), paper + ((),), paper[:1], (paper[0], paper[1] + ((),)), (paper[0] + ((),), paper[1]),
            (paper[0] + (((level[0], 0), level[0]),), paper[1]), (paper[0] + (((level[0], None), level[0]),), paper[1]),
            (paper[0] + ((level, level[0][:1]),), paper[1]), (paper[0] + ((level, (level[0][0][:3], level[0][1])),), paper[1]),
            (paper[0] + ((level, (((0, 2), (), (), ()), level[0][1])),), paper[1]), (paper[0], paper[1] + ((level, ((0, 3, (0, 0)),), level[0]),)),
            (paper[0], paper[1] + ((level, ((0, 0, (0, 0)), (0, 1, (0, 0))), level[0]),)),
            (paper[0], paper[1] + ((level, ((0, 3, (0, 0)), (0, 1, (0,))), level[0]),)),
            (paper[0], paper[1] + ((level, ((0, 3, (0, 2)), (0, 1, (0, 0))), level[0]),)),
            (paper[0], paper[1] + ((level, ([0, 3, (0, 0)], (0, 1, (0, 0))), level[0]),)),
            (paper[0] + ((level, (((0, False), (), (), ()), level[0][1])),), paper[1]),
        ]
        for value in (None, 5, "ab", ALIKE):
            wrong += [(value, paper[1]), (paper[0], value)]
        for value in wrong + values():
            self.assertIs(alike_holds(OUTS, ALIKE, ALIKE, (0,), (1,), value), False, value)
            for at in (0, 1):
                changed = paper[:at] + ((value,) + paper[at],) + paper[at + 1:]
                self.assertIs(alike_holds(OUTS, ALIKE, ALIKE, (0,), (1,), changed), False)

    def test_bases_and_frames_with_things(self):
        book = Book(3, True, 2, True, False)
        module = module_of(
            "class box 2", "class jar 2", "room 2", "foreign far", "secret s num 2", "out g num 3 num 3", "out h num 3 num 3",
            "entry e x num 3 thing box", "local b thing box", "local j thing jar", "local f thing far", "if s 0 2", "call x g x", "call x g x",
            "call x h x", "back b")
        def base(s, things, handed, came):
            return ((s,), things, handed, came)
        first = (base(0, (), (), (0,)), base(0, (), (), (0,)))
        paper = alike_paper(book, module, module, (0,), (0,))
        self.assertTrue(alike_holds(book, module, module, (0,), (0,), paper))
        box, jar = (0, 1), (1, 1)
        def with_open(one, other):
            return (paper[0] + ((((one, other), True), (one, other)),), paper[1])
        def with_level(one, other):
            return (paper[0] + ((((one, other), True), first),), paper[1])
        good = [
            (base(0, (box, jar), (1,), (2,)), base(1, (jar, box), (2,), (2,))), (base(0, (), (), (7,)), base(0, (jar,), (), (7,))),
            (base(0, (box, jar), (2, 1), (0,)), base(1, (jar, box), (1, 2), (0,))),
        ]
        good.append((base(0, (box, jar), (1,), (0,)), base(1, ((0, 0),), (1,), (0,))))
        bad = [
            (base(0, (box,), (1,), (0,)), base(1, (jar,), (1,), (0,))), (base(0, (box,), (1,), (0,)), base(1, (box,), (), (0,))),
            (base(0, (), (), (1,)), base(0, (), (), (0,))), (base(0, (box, jar), (1, 2), (0,)), base(1, (jar, box), (1, 2), (0,))),
            (base(0, ((2, 0),), (), (0,)), base(0, (), (), (0,))), (base(0, (box, box, box), (), (0,)), base(0, (), (), (0,))),
            (base(0, (box,), (2,), (0,)), base(0, (box,), (2,), (0,))), (base(2, (), (), (0,)), base(0, (), (), (0,))),
        ]
        for told, wanted in ((good, True), (bad, False)):
            for one, other in told:
                self.assertIs(alike_holds(book, module, module, (0,), (0,), with_open(one, other)), wanted, (one, other))
                self.assertIs(alike_holds(book, module, module, (0,), (0,), with_level(one, other)), wanted, (one, other))
        for one in (5, None, "abcd", (), first[0] + (0,), first[0][:3], list(first[0]), module):
            for two in (first[0], one):
                self.assertFalse(alike_holds(book, module, module, (0,), (0,), with_level(one, two)))
                self.assertFalse(alike_holds(book, module, module, (0,), (0,), with_open(two, one)))
        # Frames: of calls of one out, in states with these bases.
        wait = paper[1][0]
        for frames in [
            ((0, 1, (0, 0, 0, 0)), (0, 3, (0, 0, 0, 0))), ((0, 1, (0, 1, 0, 0)), (0, 1, (0, 0, 0, 0))), ((0, 1, (0, 0, 0, 1)), (0, 1, (0, 0, 0, 0))),
        ]:
            self.assertFalse(alike_holds(book, module, module, (0,), (0,), (paper[0], paper[1] + ((wait[0], frames, wait[2]),))))

    def test_frames_at_the_opens_above(self):
        # A frame must fit all opens of the level above it, also those with fewer things.
        rows = ("out g num 3 num 3", "entry e x num 3 num 3", "local b thing box", "make b box x", "call x g x", "back x")
        module = module_of("class box 3", "room 1", *rows)
        empty = begin(module, ())[:4]
        for book in (Book(3, True, 1, True, True), Book(3, True, 1, True, False)):
            paper = alike_paper(book, module, module, (), ())
            self.assertTrue(alike_holds(book, module, module, (), (), paper))
            wait = paper[1][0]
            self.assertEqual(wait[1][0][2][1], 1)
            level = (wait[2], True)
            self.assertFalse(alike_holds(book, module, module, (), (), (paper[0] + ((level, (empty, empty)),), paper[1])))

    def test_random_guests(self):
        rng = random.Random(36)
        found = {"alike": 0, "parted": 0, "deep": 0, "cut": 0}
        for _ in range(300):
            book = makers.random_book(rng)
            doors = makers.random_doors(rng, book)
            one = makers.random_guest(rng, book, doors)
            other = makers.random_guest(rng, book, doors) if rng.random() < 0.4 else one
            secrets, others = rng.choice(one.all_secrets()), rng.choice(other.all_secrets())
            pair = (book, one, other, secrets, others)
            try:
                paper, play = alike_paper(*pair), deep_play(*pair)
            except InvalidSize as error:
                self.assertEqual(error.word, "opens")
                continue
            self.assertEqual((paper is None) + (play is None), 1)
            if play is not None:
                found["parted"] += 1
                self.assertTrue(parts(*pair, play))
                found["deep"] += any(move[0] == "back" for move in play)
                continue
            found["alike"] += 1
            self.assertTrue(alike_holds(*pair, paper))
            if len(paper[0]) + len(paper[1]) < 200:
                first = (begin(one, secrets), begin(other, others))
                self.assertTrue(is_paper(book, (one, other), first, paper))
                for at in (0, 1):
                    for thing in rng.sample(paper[at], min(3, len(paper[at]))):
                        left = tuple(told for told in paper[at] if told != thing)
                        changed = paper[:at] + (left,) + paper[at + 1:]
                        self.assertEqual(alike_holds(*pair, changed), is_paper(book, (one, other), first, changed))
                        found["cut"] += 1
                turned = tuple(tuple(rng.sample(part, len(part))) + part[:1] for part in paper)
                self.assertTrue(alike_holds(*pair, turned))
        self.assertGreater(min(found.values()), 5, found)

    def test_small_changes(self):
        rng = random.Random(37)
        for book in (OUTS, INSIDE):
            pair = (book, ALIKE, ALIKE, (0,), (1,))
            paper = alike_paper(*pair)
            for value in variations(paper, rng, 400):
                holds = alike_holds(*pair, value)
                self.assertIsInstance(holds, bool)
                if holds:
                    self.assertEqual([set(part) >= set(told) for part, told in zip(value, paper)], [True, True])

    def test_what_never_answers_is_alike(self):
        module = module_of("room 0", "secret s num 2", "entry e x num 3 num 3", "if s 0 0", "go 1")
        self.assertIsNotNone(alike_paper(INSIDE, module, module, (0,), (1,)))
        other = module_of("room 0", "entry e x num 3 num 3", "back x")
        self.assertEqual(deep_play(INSIDE, module, other, (0,), ())[0][:2], ("call", "e"))


class Errors(unittest.TestCase):
    def check(self, error, *told):
        kept = {caught(error, alike_paper, *told), caught(error, deep_play, *told), caught(error, alike_holds, *told, None)}
        self.assertEqual(len(kept), 1)
        return kept.pop()

    def test_each_in_its_order(self):
        plain = module_of("room 0", "entry e x num 3 num 3", "back x")
        doors = [
            module_of("room 0", "entry f x num 3 num 3", "back x"), module_of("room 0", "entry e x num 2 num 3", "set x 0", "go 0"),
            module_of("room 0", "entry e x num 3 num 2", "go 0"), module_of("room 0", "entry e x num 3 num 3", "go 0", "entry f x num 3 num 3", "go 0"),
            module_of("room 0", "out g num 3 num 3", "entry e x num 3 num 3", "go 0"),
        ]
        for other in doors:
            self.assertEqual(self.check(InvalidModule, OUTS, plain, other, 0, 0), ("entries", -1))
            self.assertEqual(self.check(InvalidModule, OUTS, other, plain, 0, 0), ("entries", -1))
        book = Book(3, True, 2, True, True)
        for other in (module_of("class box 3", "room 0", "entry e x num 3 num 3", "back x"), module_of("room 0", "foreign far", "entry e x num 3 num 3", "back x")):
            self.assertEqual(self.check(InvalidModule, book, plain, other, 0, 0), ("classes", -1))
        renamed = module_of("room 2", "cell n num 3", "entry e y num 3 num 3", "back y")
        self.assertIsNotNone(alike_paper(OUTS, plain, renamed, (), ()))
        sized = [module_of("class box %d" % n, "room 0", "entry e x num 3 num 3", "back x") for n in (1, 2)]
        self.assertIsNotNone(alike_paper(book, *sized, (), ()))
        self.assertEqual(self.check(InvalidModule, Book(3, False, 0, False, False), ALIKE, None, 0, 0), ("cells", 0))
        self.assertEqual(self.check(InvalidModule, Book(3, False, 0, False, False), plain, None, 0, 0), ("module",))
        self.assertEqual(self.check(InvalidModule, Book(3, False, 0, False, False), plain, ALIKE, 0, 0), ("cells", 0))
        for told, at in [(((2,), None), 0), ((None, None), 0), (((0,), ()), 1), (((0,), (True,)), 1), ((0, (0,)), 0), (((0,), (2,)), 1)]:
            self.assertEqual(self.check(InvalidSecrets, OUTS, ALIKE, ALIKE, *told), at)

    def test_any_values(self):
        for value in values():
            if not isinstance(value, Book):
                self.assertEqual(self.check(InvalidBook, value, None, None, None, None), "book")
            if not isinstance(value, Module):
                self.assertEqual(self.check(InvalidModule, OUTS, value, None, None, None), ("module",))
                self.assertEqual(self.check(InvalidModule, OUTS, ALIKE, value, None, None), ("module",))
            if value not in ((0,), [0]):
                self.assertEqual(self.check(InvalidSecrets, OUTS, ALIKE, ALIKE, value, value), 0)
                self.assertEqual(self.check(InvalidSecrets, OUTS, ALIKE, ALIKE, [0], value), 1)

    def test_lists_and_names(self):
        paper = alike_paper(OUTS, ALIKE, ALIKE, (0,), (1,))
        self.assertEqual(alike_paper(book=OUTS, one=ALIKE, other=ALIKE, secrets=[0], others=[1]), paper)
        self.assertTrue(alike_holds(book=OUTS, one=ALIKE, other=ALIKE, secrets=[0], others=[1], value=paper))
        self.assertEqual(deep_play(book=INSIDE, one=DEEP, other=DEEP, secrets=[0], others=[1]), deep_play(INSIDE, DEEP, DEEP, (0,), (1,)))

    def test_too_many_opens(self):
        lines = ["room 0"] + ["cell c%s num 5" % name for name in "abcdef"] + ["entry e x num 5 num 5"]
        rows = []
        for at, name in enumerate("abcdef"):
            rows += ["add c%s 1" % name, "if c%s 0 %d" % (name, 3 * at + 3), "back x"]
        module = module_of(*lines, *rows, "back x")
        book = Book(5, False, 0, False, False)
        self.assertEqual(caught(InvalidSize, alike_paper, book, module, module, (), ()), "opens")
        self.assertEqual(caught(InvalidSize, deep_play, book, module, module, (), ()), "opens")
        first = (begin(module, ())[:4],) * 2
        self.assertFalse(alike_holds(book, module, module, (), (), ((((first, False), first),), ())))


def first_base(module, secrets):
    return begin(module, secrets)[:4]


if __name__ == "__main__":
    unittest.main()
