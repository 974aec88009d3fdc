"""[39], [40] Classes of secrets, least lots that leak, and least lots of guards."""

import itertools
import random
import unittest

from nomoreseen.calm import calm_holds, calm_paper, deep_leak
from nomoreseen.compiler import compiled
from nomoreseen.crossings import crossings
from nomoreseen.errors import InvalidBook, InvalidModule, InvalidSize, InvalidSpots, SeamError
from nomoreseen.modules import Book, Module
from nomoreseen.piles import alike_paper
from nomoreseen.secrets import both_hold, classes, guards_hold, is_enough, least_guards, least_leaks, leaks_hold
from nomoreseen.sights import sights
from nomoreseen.spots import spots
from tests import makers
from tests.anything import caught, values
from tests.test_calm import HAND, MODULE, guarded
from tests.test_compiler import variations
from tests.test_machine import module_of

ALONE = Book(3, True, 0, False, False)
FIRST = module_of("room 0", "secret s num 2", "entry e x num 2 num 2", "local t num 2", "if s 0 2", "set t 1", "back x")
# Nine spots.
MANY = module_of("room 0", "secret s num 2", "out g num 3 num 3", "out h num 2 num 2", "entry e x num 2 num 2", "local z num 3", "call z g z",
                 "call x h x", "back x")
CLASS = [HAND, MODULE], [ALONE, FIRST]
# Eight of them: that is not too many.
EIGHT = module_of("room 0", "secret s num 2", "out g num 3 num 3", "out h num 2 num 2", "entry e x num 3 num 3", "local z num 2", "call x g x",
                  "call z h z", "back x")
LEAKING = Book(4, True, 2, False, False), module_of(
    "class box 2", "room 2", "secret s num 2", "cell b thing box", "entry make x num 2 num 2", "make b box s", "back x", "entry read c thing box num 2",
    "local t num 2", "read t c", "back t", "entry wide x num 2 num 2", "if x 0 3", "if x 1 3", "if s 0 3", "back x")


def small_guest(rng, book):
    """A guest with a secret whose frames are small, and whose secrets are hard to see."""
    named = ["box", "jar"][:min(book.things, rng.randrange(3))]
    own = [(name, makers.size(rng, book)) for name in named]
    kinds = [makers.kind(rng, book, named) for _ in range(4)]
    outs = [("g", kinds[0], kinds[1])] if book.outs else []
    held = [("s", ("num", makers.size(rng, book))), ("n", kinds[1]), ("x", kinds[2]), ("t", kinds[3]), ("u", kinds[0])]
    backs = [kind for _, kind in held if kind != held[0][1]] or [held[1][1]]
    entries = []
    for name in "ef"[:rng.randint(1, 2)]:
        kind_back = rng.choice(backs)
        rows = []
        for _ in range(rng.randint(1, 4)):
            try:
                rows.append(makers.random_row(rng, (own, (), outs, ()), dict(held), kind_back, 4))
            except IndexError:
                rows.append(("set", "s", 0) if rng.random() < 0.2 else ("if", "s", 0, rng.randrange(4)))
        rows += [("if", "s", 0, 4)] * (4 - len(rows)) + [("back", rng.choice([at for at, kind in held[1:] if kind == kind_back] or ["s"]))]
        entries.append((name, "x", kinds[2], kind_back, held[3:], rows))
    try:
        return Module("m", own, rng.randrange(3), (), [(name, kind, name == "s") for name, kind in held[:2]], outs, entries)
    except InvalidModule:
        return None


def slow_classes(book, module):
    found = []
    for secrets in module.all_secrets():
        for told in found:
            if alike_paper(book, module, module, told[-1], secrets) is not None:
                told.append(secrets)
                break
        else:
            found.append([secrets])
    return tuple(sorted(tuple(told) for told in found))


def beside(told):
    return [pair for secrets in told for pair in zip(secrets, secrets[1:])]


class Random(unittest.TestCase):
    def test_all_lots(self):
        rng = random.Random(40)
        found = {"leaks": 0, "guards": 0, "several": 0, "classes": 0, "spots": 0}
        for _ in range(200):
            book = makers.random_book(rng, (3,))
            module = small_guest(rng, book)
            if module is None:
                continue
            every = spots(book, module)
            if len(every) > 6:
                continue
            try:
                told = slow_classes(book, module)
                self.assertEqual(classes(book, module), told)
                pairs, leaking = beside(told), {}
                for many in range(len(every) + 1):
                    for bare in itertools.combinations(range(len(every)), many):
                        left = [every[at] for at in bare]
                        leaking[bare] = any(deep_leak(book, module, left, *pair) is not None for pair in pairs)
                        self.assertEqual(is_enough(book, module, [spot for spot in every if spot not in left]), not leaking[bare])
            except InvalidSize as error:
                self.assertEqual(error.word, "opens")
                continue
            # More guards never harm.
            for bare in leaking:
                self.assertFalse(leaking[bare] and any(set(bare) <= set(more) and not leaking[more] for more in leaking))
            least = [bare for bare in leaking if leaking[bare] and not any(set(less) < set(bare) and leaking[less] for less in leaking)]
            leaks, guards = least_leaks(book, module), least_guards(book, module)
            self.assertEqual([lot for lot, _ in leaks], [tuple(every[at] for at in bare) for bare in sorted(least)])
            numbers = crossings(len(every), least)
            self.assertEqual([lot for lot, _ in guards], [tuple(every[at] for at in lot) for lot in numbers])
            for bare, (secrets, others, script) in leaks:
                self.assertTrue(secrets < others and any(secrets in one and others in one for one in told))
                code = guarded(book, module, bare)
                seen = sights(code, secrets, script), sights(code, others, script)
                self.assertEqual((seen[0][:-1], seen[0][-1] == seen[1][-1]), (seen[1][:-1], False))
            for lot, papers in guards:
                bare = [spot for spot in every if spot not in lot]
                self.assertEqual(len(papers), len(pairs))
                self.assertTrue(all(calm_holds(book, module, bare, *pair, paper) for pair, paper in zip(pairs, papers)))
            self.assertTrue(leaks_hold(book, module, leaks) and guards_hold(book, module, guards) and both_hold(book, module, leaks, guards))
            found["leaks"] += len(leaks) > 0
            found["guards"] += len(guards[0][0]) > 1
            found["several"] += len(leaks) > 1
            found["classes"] += len(told) > 1
            found["spots"] += len(every) > 4
        self.assertGreater(min(found.values()), 3, found)


class ByHand(unittest.TestCase):
    def test_example_of_chapter_1(self):
        self.assertEqual(classes(ALONE, FIRST), (((0,), (1,)),))
        self.assertEqual(spots(ALONE, FIRST), (("below", "e"), ("wipe", "e")))
        self.assertEqual(least_leaks(ALONE, FIRST), (((("wipe", "e"),), ((0,), (1,), (("call", "e", 0, ()),))),))
        guards = least_guards(ALONE, FIRST)
        self.assertEqual([lot for lot, _ in guards], [(("wipe", "e"),)])
        self.assertEqual(len(guards[0][1]), 1)
        code = guarded(ALONE, FIRST, (("wipe", "e"),))
        script = (("call", "e", 0, ()),)
        self.assertEqual([sights(code, secrets, script)[0] for secrets in ((0,), (1,))], [(("back", 0), 0, 0, 1, ()), (("back", 0), 1, 0, 0, ())])

    def test_example_of_42(self):
        self.assertEqual(classes(book=HAND, module=MODULE), (((0,), (1,)),))
        self.assertEqual(least_leaks(book=HAND, module=MODULE), (((("wipe", "g"),), ((0,), (1,), (("call", "e", 0, ()),))),))
        guards = least_guards(book=HAND, module=MODULE)
        self.assertEqual([lot for lot, _ in guards], [(("wipe", "g"),)])
        self.assertTrue(calm_holds(HAND, MODULE, [spot for spot in spots(HAND, MODULE) if spot != ("wipe", "g")], (0,), (1,), guards[0][1][0]))
        self.assertTrue(is_enough(HAND, MODULE, (("wipe", "g"),)))
        self.assertTrue(is_enough(book=HAND, module=MODULE, guarded=[["idle", ""], ["wipe", "g"]]))
        self.assertFalse(is_enough(HAND, MODULE, [spot for spot in spots(HAND, MODULE) if spot != ("wipe", "g")]))

    def test_several_lots(self):
        book, module = LEAKING
        leaks, guards = least_leaks(book, module), least_guards(book, module)
        self.assertEqual([lot for lot, _ in leaks], [(("below", "wide"), ("wipe", "wide")), (("given", "read"),), (("wipe", "make"),)])
        self.assertEqual([lot for lot, _ in guards], [
            (("below", "wide"), ("given", "read"), ("wipe", "make")), (("given", "read"), ("wipe", "make"), ("wipe", "wide"))])
        self.assertTrue(both_hold(book, module, leaks, guards))
        # A list that lacks something, or has too much, is no crossing of the other.
        self.assertFalse(both_hold(book, module, leaks[:-1], guards))
        self.assertFalse(both_hold(book, module, leaks, guards[:1]))
        self.assertFalse(both_hold(book, module, leaks, ()))
        self.assertFalse(both_hold(book, module, (), guards))
        self.assertFalse(both_hold(book, module, guards, leaks))
        self.assertTrue(leaks_hold(book, module, leaks[:-1]) and leaks_hold(book, module, leaks[1:]) and leaks_hold(book, module, ()))
        self.assertTrue(guards_hold(book, module, guards[:1]) and guards_hold(book, module, ()))
        self.assertFalse(leaks_hold(book, module, leaks[::-1]))
        self.assertFalse(leaks_hold(book, module, leaks[:1] * 2))
        self.assertFalse(guards_hold(book, module, guards[::-1]))

    def test_no_secrets(self):
        module = module_of("room 0", "entry e x num 2 num 2", "back x")
        self.assertEqual((classes(ALONE, module), least_leaks(ALONE, module), least_guards(ALONE, module)), ((((),),), (), (((), ()),)))
        self.assertTrue(both_hold(ALONE, module, (), (((), ()),)))
        self.assertFalse(both_hold(ALONE, module, (), ()))
        self.assertTrue(is_enough(ALONE, module, ()))
        # Each secret for itself: nothing is asked.
        told = module_of("room 0", "secret s num 3", "entry e x num 3 num 3", "back s")
        self.assertEqual((classes(ALONE, told), least_guards(ALONE, told)), ((((0,),), ((1,),), ((2,),)), (((), ()),)))

    def test_eight_spots(self):
        self.assertEqual(len(spots(HAND, EIGHT)), 8)
        self.assertEqual((least_leaks(HAND, EIGHT), [lot for lot, _ in least_guards(HAND, EIGHT)]), ((), [()]))
        self.assertTrue(both_hold(HAND, EIGHT, (), least_guards(HAND, EIGHT)))

    def test_classes_of_what_is_seen_later(self):
        # s is seen at once, r at the second call only, q never.
        module = module_of("room 0", "secret s num 2", "secret r num 2", "secret q num 2", "cell n num 2", "entry e x num 2 num 2", "if n 1 3", "set n 1",
                           "back s", "copy x r", "back r")
        wanted = tuple(sorted(tuple((s, r, q) for q in range(2)) for s in range(2) for r in range(2)))
        self.assertEqual((classes(ALONE, module), slow_classes(ALONE, module)), (wanted, wanted))

    def test_several_classes(self):
        # s is shown, r is not; two classes of two secrets.
        module = module_of("room 0", "secret s num 2", "secret r num 2", "entry e x num 2 num 2", "local t num 2", "copy t r", "back s")
        self.assertEqual(classes(ALONE, module), (((0, 0), (0, 1)), ((1, 0), (1, 1))))
        leaks, guards = least_leaks(ALONE, module), least_guards(ALONE, module)
        self.assertEqual(([lot for lot, _ in leaks], [lot for lot, _ in guards]), ([(("wipe", "e"),)], [(("wipe", "e"),)]))
        papers = guards[0][1]
        self.assertEqual(len(papers), 2)
        self.assertTrue(guards_hold(ALONE, module, guards))
        self.assertFalse(guards_hold(ALONE, module, ((guards[0][0], papers[::-1]),)))
        self.assertFalse(guards_hold(ALONE, module, ((guards[0][0], papers[:1]),)))
        self.assertFalse(guards_hold(ALONE, module, ((guards[0][0], papers + papers[:1]),)))
        script = (("call", "e", 0, ()),)
        bare = (("wipe", "e"),)
        self.assertTrue(leaks_hold(ALONE, module, ((bare, ((1, 0), (1, 1), script)),)))
        # Secrets of two classes, or turned about, are no leak.
        for secrets, others in (((0, 0), (1, 0)), ((0, 0), (1, 1)), ((0, 1), (0, 0)), ((1, 1), (1, 1)), ((1, 1), (1, 0))):
            self.assertFalse(leaks_hold(ALONE, module, ((bare, (secrets, others, script)),)))


class Judges(unittest.TestCase):
    def test_bent_leaks(self):
        book, module = LEAKING
        rng = random.Random(41)
        leaks = least_leaks(book, module)
        every = spots(book, module)
        held = 0
        for bent in variations(leaks, rng, 1500):
            right = self.are_leaks(book, module, every, bent)
            self.assertEqual(leaks_hold(book, module, bent), right, bent)
            held += right
        self.assertGreater(held, 10)

    def are_leaks(self, book, module, every, value):
        """By the words of [40]; each value here has two secrets of one class, or none."""
        try:
            if "[" in repr(value) or "True" in repr(value) or "False" in repr(value):
                return False
            lots = [tuple(every.index(spot) for spot in lot) for lot, _ in value]
            if lots != sorted(set(lots)) or any(set(one) < set(other) for one in lots for other in lots):
                return False
            for numbers, (lot, (secrets, others, script)) in zip(lots, value):
                code = guarded(book, module, lot)
                seen, seen_other = sights(code, secrets, script), sights(code, others, script)
                if list(numbers) != sorted(set(numbers)) or not secrets < others or not script:
                    return False
                if seen[:-1] != seen_other[:-1] or seen[-1] == seen_other[-1]:
                    return False
            return type(value) is tuple
        except (SeamError, ValueError, TypeError):
            return False

    def test_bent_guards(self):
        rng = random.Random(42)
        for book, module in CLASS:
            guards = least_guards(book, module)
            (lot, (paper,)), every = guards[0], spots(book, module)
            for bent in variations(guards, rng, 600):
                right = False
                if type(bent) is tuple and len(bent) == 1 and type(bent[0]) is tuple and len(bent[0]) == 2:
                    told, papers = bent[0]
                    if type(told) is tuple and all(spot in every for spot in told) and type(papers) is tuple and len(papers) == 1:
                        numbers = [every.index(spot) for spot in told]
                        bare = [spot for spot in every if spot not in told]
                        right = numbers == sorted(set(numbers)) and calm_holds(book, module, bare, (0,), (1,), papers[0])
                self.assertEqual(guards_hold(book, module, bent), right or bent == (), bent)
            # A lot that is not least may be told, too, with its papers; not so one that is within another.
            wide = tuple(spot for spot in every if spot in (*lot, every[0]))
            bare = [spot for spot in every if spot not in wide]
            told = (wide, (calm_paper(book, module, bare, (0,), (1,)),))
            self.assertTrue(guards_hold(book, module, (told,)))
            self.assertFalse(guards_hold(book, module, tuple(sorted((told, guards[0]), key=lambda pair: [every.index(spot) for spot in pair[0]]))))
            self.assertFalse(both_hold(book, module, least_leaks(book, module), (told,)))

    def test_any_values(self):
        leaks, guards = least_leaks(HAND, MODULE), least_guards(HAND, MODULE)
        for value in values() + [list(leaks), list(guards), (list(leaks[0]),), leaks[0], (leaks[0] + (0,),), ((leaks[0][0],),)]:
            if value != ():
                self.assertFalse(leaks_hold(HAND, MODULE, value))
                self.assertFalse(guards_hold(HAND, MODULE, value))
            self.assertFalse(both_hold(HAND, MODULE, value, guards))
            self.assertFalse(both_hold(HAND, MODULE, leaks, value))
            self.assertFalse(leaks_hold(HAND, MODULE, ((value, leaks[0][1]),)))
            self.assertFalse(leaks_hold(HAND, MODULE, ((leaks[0][0], value),)))
            for at in range(3):
                bent = leaks[0][1][:at] + (value,) + leaks[0][1][at + 1:]
                if value not in ((0,), [0]):
                    self.assertFalse(leaks_hold(HAND, MODULE, ((leaks[0][0], bent),)))
            self.assertFalse(guards_hold(HAND, MODULE, ((value, guards[0][1]),)) and value != (("wipe", "g"),))
            self.assertFalse(guards_hold(HAND, MODULE, ((guards[0][0], value),)))
        self.assertTrue(both_hold(book=HAND, module=MODULE, leaks=leaks, guards=guards))

    def test_errors_in_their_order(self):
        self.assertEqual(len(spots(HAND, MANY)), 9)
        calls = [(classes, ()), (is_enough, (None,)), (least_leaks, ()), (least_guards, ()), (leaks_hold, ((),)), (guards_hold, ((),)),
                 (both_hold, ((), ()))]
        for call, rest in calls:
            for value in values():
                if not isinstance(value, Book):
                    self.assertEqual(caught(InvalidBook, call, value, None, *rest), "book")
                if not isinstance(value, Module):
                    self.assertEqual(caught(InvalidModule, call, HAND, value, *rest), ("module",))
            self.assertEqual(caught(InvalidModule, call, Book(3, False, 0, True, False), MANY, *rest), ("cells", 0))
            if call not in (classes, is_enough):
                self.assertEqual(caught(InvalidSize, call, HAND, MANY, *rest), "spots")
        for value in values():
            if not isinstance(value, (list, tuple)):
                self.assertEqual(caught(InvalidSpots, is_enough, HAND, MANY, value), -1)
            elif value:
                self.assertEqual(caught(InvalidSpots, is_enough, HAND, MANY, value), 0)
        self.assertEqual(caught(InvalidSpots, is_enough, HAND, MANY, (("wipe", "g"), ["wipe", "g"])), 1)
        # More than eight spots are looked at there.
        self.assertEqual((classes(HAND, MANY), is_enough(HAND, MANY, ())), ((((0,), (1,)),), True))


if __name__ == "__main__":
    unittest.main()
