"""[31], [32] The table of tricks: which lots of guards are quiet, and what shows that others are not."""

import itertools
import random
import unittest

from nomoreseen.compiler import compiled
from nomoreseen.errors import InvalidBook, InvalidSize, SeamError
from nomoreseen.modules import Book, Module
from nomoreseen.piles import alike_paper
from nomoreseen.sights import parting_script, sights
from nomoreseen.spots import TRICKS, bites, spots_of
from nomoreseen.table import least_quiet, need_holds, quiet
from tests import makers
from tests.anything import caught, values
from tests.scripts import random_script
from tests.test_compiler import variations
from tests.test_machine import module_of
from tests.test_spared import all_books

EVERY = Book(4, True, 2, True, False)


def lots(book):
    biting = bites(book)
    for many in range(len(biting) + 1):
        yield from itertools.combinations(biting, many)


class Quiet(unittest.TestCase):
    def test_needs_of_all_books(self):
        for book in all_books():
            if book.word > 4:
                continue
            for lot in lots(book):
                lacking = [trick for trick in bites(book) if trick not in lot]
                told = quiet(book, lot)
                if not lacking:
                    self.assertEqual(told, (True, ()))
                    continue
                is_quiet, (trick, one, other, script) = told
                self.assertEqual((is_quiet, trick), (False, lacking[0]))
                self.assertTrue(need_holds(book, lot, told[1]))
                paper = alike_paper(book, one, other, (), ())
                self.assertLessEqual(sum(map(len, paper)), 150)
                for guest in (one, other):
                    self.assertLessEqual(sum(len(entry[5]) for entry in guest.entries), 8)
                    self.assertEqual(guest.secret_cells(), ())
                seen = [sights(compiled(book, guest, spots_of(book, guest, lot)), (), script) for guest in (one, other)]
                self.assertEqual((seen[0][:-1], seen[0][-1] == seen[1][-1]), (seen[1][:-1], False))
                # The tricks ahead do not make it hold for another lot that has this one.
                self.assertFalse(need_holds(book, lot + (trick,), told[1]))

    def test_each_trick_by_itself(self):
        for book in all_books():
            for trick in bites(book):
                lot = [other for other in TRICKS if other != trick]
                told = quiet(book, lot)
                self.assertEqual((told[0], told[1][0]), (False, trick))
                self.assertTrue(need_holds(book, lot, told[1]))
            self.assertEqual(quiet(book, TRICKS), (True, ()))

    def test_tricks_in_any_order(self):
        self.assertEqual(quiet(book=EVERY, tricks=list(TRICKS[::-1]) + ["W", "R"]), (True, ()))
        self.assertEqual(quiet(Book(3, False, 0, False, False), ("W", "W")), (True, ()))
        self.assertEqual(quiet(Book(3, False, 0, False, False), ("K", "R"))[1][0], "W")
        self.assertEqual(quiet(Book(3, False, 0, False, False), [])[0], False)
        one, other = quiet(EVERY, ("W", "K")), quiet(EVERY, ["K", "W", "K"])
        self.assertEqual([one[1][0], one[1][1].told, one[1][2].told, one[1][3]], [other[1][0], other[1][1].told, other[1][2].told, other[1][3]])

    def test_errors_in_their_order(self):
        for value in values():
            for call, rest in ((quiet, ()), (need_holds, (None,))):
                if not isinstance(value, Book):
                    self.assertEqual(caught(InvalidBook, call, value, None, *rest), "book")
                if value not in ((), []):
                    self.assertEqual(caught(InvalidSize, call, EVERY, value, *rest), "tricks")
        for wrong in ("W", ("W", "X"), ("w",), (("W",),), ("W", None), {"W": 1}):
            self.assertEqual(caught(InvalidSize, quiet, EVERY, wrong), "tricks")

    def test_enough_guards_are_quiet(self):
        # Alike guests are parted by no script that is tried; those that are not alike often are.
        rng = random.Random(32)
        tried = 0
        for _ in range(400):
            book = makers.random_book(rng)
            one = makers.random_guest(rng, book, makers.random_doors(rng, book), rows=4, secret=False)
            other = makers.mutant(rng, one)
            try:
                if alike_paper(book, one, other, (), ()) is None:
                    continue
            except InvalidSize:
                continue
            codes = [compiled(book, guest, spots_of(book, guest, bites(book))) for guest in (one, other)]
            self.assertIsNone(parting_script(*codes, (), (), 2))
            for _ in range(5):
                script = random_script(rng, codes[0], (), 8)
                self.assertEqual(sights(codes[0], (), script), sights(codes[1], (), script))
            tried += one.told != other.told
        self.assertGreater(tried, 50)


class Needs(unittest.TestCase):
    def test_any_trick_that_bites(self):
        # The need of a trick further behind holds as well.
        for trick in bites(EVERY):
            need = quiet(EVERY, [other for other in TRICKS if other != trick])[1]
            self.assertTrue(need_holds(EVERY, [other for other in TRICKS if other != trick], need))
            self.assertFalse(need_holds(EVERY, TRICKS, need))
            for other in TRICKS + ("X", None, 0, "", "WK"):
                if other != trick:
                    self.assertFalse(need_holds(EVERY, [told for told in TRICKS if told != trick], (other,) + need[1:]))
        # In a book in which it does not bite no need of it holds.
        need = quiet(Book(4, True, 0, False, False), ("W",))[1]
        self.assertEqual(need[0], "K")
        self.assertFalse(need_holds(Book(4, False, 0, False, False), ("W",), need))

    def test_bent_needs(self):
        for trick in bites(EVERY):
            lot = [other for other in TRICKS if other != trick]
            need = quiet(EVERY, lot)[1]
            _, one, other, script = need
            unlike = module_of("room 0", "entry z x num 4 num 4", "back x")
            for bent in [
                list(need), need[:3], need + ((),), (trick, one, other, list(script)), (trick, one, other, ()), (trick, one, one, script),
                (trick, one, other, script + (script[-1],)), (trick, one, other, (script[-1], None)), (trick, one, unlike, script),
                (trick, None, other, script), (trick, one, 0, script), (trick, one, other, script[-1]), (trick, one, other, (list(script[-1]),)),
                (trick, one, other, script[:-1] + (script[-1][:-1] + ([],),)), (trick, one.told, other.told, script), ((trick,), one, other, script),
                ([trick], one, other, script),
            ]:
                self.assertFalse(need_holds(EVERY, lot, bent), (trick, bent))
            # The other way about it is one, too.
            self.assertTrue(need_holds(EVERY, lot, (trick, other, one, script)))
            for value in values():
                self.assertFalse(need_holds(EVERY, lot, value))
                self.assertFalse(need_holds(EVERY, lot, (trick, value, other, script)))
                self.assertFalse(need_holds(EVERY, lot, (trick, one, other, value)))
                self.assertFalse(need_holds(EVERY, lot, (trick, one, other, (value,))))

    def test_changed_scripts(self):
        rng = random.Random(320)
        for trick in bites(EVERY):
            lot = [other for other in TRICKS if other != trick]
            trick, one, other, script = quiet(EVERY, lot)[1]
            codes = [compiled(EVERY, guest, spots_of(EVERY, guest, lot)) for guest in (one, other)]
            for bent in variations(script, rng, 40):
                try:
                    seen = [sights(code, (), bent) for code in codes]
                    right = len(bent) > 0 and seen[0][:-1] == seen[1][:-1] and seen[0][-1] != seen[1][-1] and "[" not in repr(bent)
                except SeamError:
                    right = False
                self.assertEqual(need_holds(EVERY, lot, (trick, one, other, bent)), right, bent)

    def test_example_of_34(self):
        book = Book(4, True, 0, False, False)
        head = ("room 0", "entry e x num 2 num 3", "local y num 3")
        one, other = module_of(*head, "if x 0 3", "if x 1 3", "set y 1", "back y"), module_of(*head, "back y")
        need = ("K", one, other, (("call", "e", 2, ()),))
        self.assertTrue(need_holds(book, ("W",), need))
        self.assertFalse(need_holds(book, ("W", "K"), need))
        self.assertFalse(need_holds(book, ("W",), need[:3] + ((("call", "e", 1, ()),),)))
        codes = [compiled(book, guest, spots_of(book, guest, ("W",))) for guest in (one, other)]
        self.assertEqual([sights(code, (), need[3])[0] for code in codes], [(("back", 1), 0, 0, 0, ()), (("back", 0), 0, 0, 0, ())])
        codes = [compiled(book, guest, spots_of(book, guest, ("W", "K"))) for guest in (one, other)]
        self.assertEqual([sights(code, (), need[3])[0] for code in codes], [(("never",),)] * 2)
        self.assertIsNone(parting_script(*codes, (), (), 6))

    def test_guests_that_are_too_much(self):
        book = Book(4, True, 0, True, False)
        head = ("room 0", "entry e x num 4 num 4", "local t num 4", "set t 1")
        script = (("call", "e", 0, ()),)
        other = module_of("room 0", "entry e x num 4 num 4", "local t num 4", "back x")
        for many in range(8):
            one = module_of(*head, *["set t 1"] * many, "back x")
            self.assertEqual(need_holds(book, (), ("W", one, other, script)), many < 7)
        for guest in (module_of("room 0", "secret s num 4", *head[1:], "back x"), module_of(*head, "show"), module_of(*head, "set x 1", "back x")):
            self.assertFalse(need_holds(book, (), ("W", guest, other, script)))
        self.assertFalse(need_holds(Book(3, True, 0, True, False), (), ("W", module_of(*head, "back x"), other, script)))
        # Other names are other doors.
        named = module_of("room 0", "entry f x num 4 num 4", "local t num 4", "back x")
        self.assertFalse(need_holds(book, (), ("W", module_of(*head, "back x"), named, script)))


class Least(unittest.TestCase):
    def test_books(self):
        self.assertEqual(least_quiet([Book(3, False, 0, False, False)]), ("W",))
        self.assertEqual(least_quiet((Book(3, True, 0, False, False), Book(4, False, 1, False, False))), ("W", "K", "H", "N"))
        self.assertEqual(least_quiet(books=[Book(3, False, 0, True, True), Book(3, False, 2, False, False)] * 2), ("W", "H", "C", "N", "S", "B"))
        self.assertEqual(least_quiet([EVERY]), TRICKS)
        rng = random.Random(33)
        for _ in range(60):
            books = [makers.random_book(rng) for _ in range(rng.randint(1, 4))]
            lot = least_quiet(books)
            self.assertEqual(lot, tuple(trick for trick in TRICKS if trick in lot))
            self.assertTrue(all(quiet(book, lot)[0] for book in books))
            for trick in lot:
                self.assertFalse(all(quiet(book, [other for other in lot if other != trick])[0] for book in books))

    def test_wrong_books(self):
        for value in values():
            if not isinstance(value, (list, tuple)) or not value:
                self.assertEqual(caught(InvalidSize, least_quiet, value), "books")
            if not isinstance(value, Book):
                self.assertEqual(caught(InvalidBook, least_quiet, (EVERY, value, EVERY)), "book")


if __name__ == "__main__":
    unittest.main()
