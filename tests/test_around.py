"""[33] Surroundings made for a play; with them [27]'s lawful moves and [28]'s doors."""

import random
import unittest

from nomoreseen.around import around
from nomoreseen.books import fits_around, is_around
from nomoreseen.errors import InvalidBook, InvalidModule, InvalidPlay, Refused
from nomoreseen.linked import own_run
from nomoreseen.modules import Book, Module
from nomoreseen.texts import module_text, read_module
from tests.anything import BOOK, MODULE, caught, values
from tests.makers import follows, random_book, random_doors, random_guest, random_play

DOORS = """module m
class box 3
class jar 2
room 2
foreign far
out g num 2 thing far
out h thing box thing box
entry e x num 3 num 2
local y num 2
back y
entry f x thing box thing jar
local y thing jar
back y
entry d x thing far thing far
back x
entry a x num 2 thing box
local y thing box
back y"""


class Shows(unittest.TestCase):
    def shown(self, book, guest, amid, secrets, most=60):
        told = own_run(book, guest, amid, secrets, most)
        self.assertIn(told, ("shows", "never"))
        return told == "shows"

    def check(self, book, module, play, others):
        """The surroundings of a play show just around those of the others that follow it."""
        amid = around(book, module, play)
        self.assertIsInstance(amid, Module)
        self.assertIsNone(fits_around(book, amid))
        self.assertTrue(is_around(module, amid))
        self.assertEqual(amid.told, around(book, module, [list(move) for move in play]).told)
        shown = 0
        for guest in others:
            self.assertTrue(is_around(guest, amid))
            for secrets in guest.all_secrets():
                wanted = follows(book, guest, secrets, play)
                self.assertIs(self.shown(book, guest, amid, secrets), wanted, (guest.told, play))
                shown += wanted
        return shown

    def test_by_hand(self):
        book = Book(3, True, 0, True, False)
        echo = read_module("module m\nroom 0\nout g num 2 num 3\nentry e x num 2 num 3\nlocal y num 3\ncall y g x\nback y")
        other = read_module("module m\nroom 0\nout g num 2 num 3\nentry e x num 2 num 3\nlocal y num 3\ncall y g x\nset y 2\nback y")
        play = (("call", "e", 1), ("call", "g", 1), ("back", 2), ("back", 2))
        self.assertEqual(self.check(book, echo, play, [echo, other]), 2)
        play = (("call", "e", 1), ("call", "g", 1), ("back", 1), ("back", 1))
        self.assertEqual(self.check(book, echo, play, [echo, other]), 1)
        # The guest need not be the one of which the doors were told.
        self.assertEqual(self.check(book, other, play, [echo, other]), 1)
        play = (("call", "e", 0), ("call", "g", 1))
        self.assertEqual(self.check(book, echo, play, [echo, other]), 0)
        self.assertEqual(around(module=echo, play=play, book=book).told, around(book, echo, play).told)

    def test_counts_beyond_one_digit(self):
        book = Book(3, True, 0, False, False)
        clock = read_module("module m\nroom 0\ncell c num 3\nentry e x num 3 num 3\nadd c 1\nback c")
        stuck = read_module("module m\nroom 0\ncell c num 3\nentry e x num 3 num 3\nif c 2 2\nadd c 1\nback c")
        for many in (1, 2, 3, 5, 9, 12):
            play = ()
            for done in range(many):
                play += (("call", "e", 1), ("back", (done + 1) % 3))
            self.assertEqual(self.check(book, clock, play, [clock, stuck]), 1 + (many < 3))

    def test_random_guests(self):
        rng = random.Random(33)
        shown = 0
        for _ in range(250):
            book = random_book(rng)
            doors = random_doors(rng, book)
            guest = random_guest(rng, book, doors)
            play, _ = random_play(rng, book, guest, rng.choice(guest.all_secrets()), rng.randint(1, 5))
            if play:
                others = [guest] + [random_guest(rng, book, doors) for _ in range(4)]
                shown += self.check(book, others[-1], play, others)
                self.assertEqual(read_module(module_text(around(book, guest, play))).told, around(book, guest, play).told)
        self.assertGreater(shown, 250)

    def test_random_answers(self):
        # The last out-move is another one, or has another value: just those who answer so are shown.
        rng = random.Random(34)
        found = 0
        for _ in range(250):
            book = random_book(rng)
            guest = random_guest(rng, book, random_doors(rng, book))
            play, _ = random_play(rng, book, guest, rng.choice(guest.all_secrets()), 4)
            for out in [("back", v) for v in range(book.word)] + [("call", o[0], v) for o in guest.outs for v in range(book.word)]:
                other = play[:-1] + (out,)
                try:
                    amid = around(book, guest, other)
                except (Refused, InvalidPlay):
                    continue
                found += 1
                for secrets in guest.all_secrets():
                    self.assertIs(self.shown(book, guest, amid, secrets), follows(book, guest, secrets, other))
        self.assertGreater(found, 300)

    def test_calls_inside(self):
        book = Book(3, True, 0, True, True)
        text = "module m\nroom 0\ncell c num 3\nout g num 3 num 3\nentry e x num 3 num 3\nadd c 1\ncall x g c\nback x"
        guest = read_module(text)
        other = read_module(text.replace("back x", "back c"))
        play = (
            ("call", "e", 0), ("call", "g", 1), ("call", "e", 0), ("call", "g", 2), ("back", 2), ("back", 2), ("back", 1),
            ("back", 1),
        )
        self.assertEqual(self.check(book, guest, play, [guest, other]), 1)
        self.assertEqual(self.check(book, guest, play[:6], [guest, other]), 2)

    def test_things(self):
        book = Book(4, True, 2, True, False)
        text = "module m\nclass box 2\nclass jar 2\nroom 3\nforeign far\ncell k thing box\ncell q thing far\n" \
            "out g thing far thing box\nentry a x num 2 thing box\n%s\nback k\nentry f x thing far thing far\n%s\n" \
            "entry o x num 2 thing box\nlocal t thing box\n%s\nback t"
        makes = read_module(text % ("make k box x", "copy q x\nback x", "call t g q"))
        same = read_module(text % ("if x 1 2\nmake k box x", "copy q x\nback x", "call t g q"))
        old = read_module(text % ("make k box x", "back q", "call t g q"))
        play = (
            ("call", "a", 0), ("back", 1), ("call", "a", 1), ("back", 2), ("call", "f", 1), ("back", 1), ("call", "f", 2), ("back", 2),
            ("call", "o", 0), ("call", "g", 2), ("back", 1), ("back", 1), ("call", "f", 0), ("back", 0), ("call", "o", 0),
            ("call", "g", 0), ("back", 0), ("back", 0),
        )
        others = [makes, same, old]
        self.assertEqual(self.check(book, makes, play, others), 1)
        for end in range(2, len(play), 2):
            self.assertGreaterEqual(self.check(book, old, play[:end], others), 1)


class Wrong(unittest.TestCase):
    def setUp(self):
        self.book = Book(4, True, 2, True, False)
        self.inside = Book(4, True, 2, True, True)
        self.module = read_module(DOORS)

    def test_guests_alone(self):
        for value in values():
            if value is not BOOK:
                self.assertEqual(caught(InvalidBook, around, value, value, value), "book")
            if value is not MODULE:
                self.assertEqual(caught(InvalidModule, around, self.book, value, value), ("module",))
        self.assertEqual(caught(InvalidModule, around, Book(4, False, 2, True, False), self.module, None), ("classes", 0))

    def test_no_plays(self):
        good = [("call", "e", 0), ("back", 0), ["call", "e", 3], ["back", 9]]
        wrong = values() + [
            ("never",), ("show",), ("call", "e"), ("call", "e", -1), ("call", "e", True), ("call", "e", 0, 0), ("call", "x", 0),
            ("call", ["e"], 0), ("back",), ("back", None), ("back", 0, 0), ("call", "box", 0), ("call", "m", 0), ("Back", 0),
        ]
        known = [("back", 0), ("call", "e", 0)]
        for value in wrong:
            if value not in known:
                for many in (0, 2, 4):
                    self.assertEqual(self.no_play(good[:many] + [value, None]), many)
                    self.assertEqual(self.no_play(good[:many] + [("call", "e", 7), value, None]), many + 1)
            if not isinstance(value, (list, tuple)):
                self.assertEqual(self.no_play(value), -1)
        # Calls of outs are no in-moves, those of entries no out-moves.
        self.assertEqual(self.no_play([("call", "g", 0), ("back", 0)]), 0)
        self.assertEqual(self.no_play([("call", "e", 0), ("call", "e", 0)]), 1)
        # A back where a play begins; no moves, or one without its answer.
        self.assertEqual(self.no_play([("back", 0), ("back", 0)]), 0)
        self.assertEqual(self.no_play(()), 0)
        self.assertEqual(self.no_play([]), 0)
        for many in (1, 3):
            self.assertEqual(self.no_play(good[:many]), many)
        # What can't come is told behind what is no play.
        self.assertEqual(self.no_play([("call", "e", 0), ("back", 9), ("call", "e", 9), ("back", 9), None]), 4)

    def no_play(self, play):
        return caught(InvalidPlay, around, self.book, self.module, play)

    def refused(self, *play, book=None):
        return caught(Refused, around, book or self.book, self.module, play)

    def lets(self, *play, book=None):
        self.assertIsInstance(around(book or self.book, self.module, play), Module)

    def test_in_moves_of_numbers(self):
        self.lets(("call", "e", 2), ("back", 0))
        self.assertEqual(self.refused(("call", "e", 3), ("back", 0)), 0)
        self.assertEqual(self.refused(("call", "e", 0), ("back", 0), ("call", "e", 10 ** 9), ("back", 9)), 2)

    def test_out_moves_of_numbers(self):
        self.lets(("call", "e", 0), ("back", 1))
        self.assertEqual(self.refused(("call", "e", 0), ("back", 2)), 1)
        self.lets(("call", "e", 0), ("call", "g", 1))
        self.assertEqual(self.refused(("call", "e", 0), ("call", "g", 2)), 1)

    def test_backs_in_turn(self):
        self.assertEqual(self.refused(("call", "e", 0), ("back", 0), ("back", 0), ("back", 0)), 2)
        self.lets(("call", "e", 0), ("call", "g", 0), ("back", 0), ("back", 0))
        self.assertEqual(self.refused(("call", "e", 0), ("call", "g", 0), ("back", 0), ("back", 0), ("back", 0), ("back", 0)), 4)

    def test_calls_while_a_call_waits(self):
        play = (("call", "e", 0), ("call", "g", 0), ("call", "e", 0), ("back", 0))
        self.assertEqual(self.refused(*play), 2)
        self.lets(*play, book=self.inside)
        # The answer of the inner call is of its own kind, then that of the outer one.
        play = (("call", "e", 0), ("call", "g", 0), ("call", "f", 0), ("back", 1), ("back", 0))
        self.lets(*play, ("back", 1), book=self.inside)
        self.assertEqual(self.refused(*play, ("back", 2), book=self.inside), 5)

    def test_own_things(self):
        self.lets(("call", "a", 0), ("back", 0))
        self.lets(("call", "a", 0), ("back", 1), ("call", "a", 1), ("back", 1), ("call", "a", 0), ("back", 2))
        self.assertEqual(self.refused(("call", "a", 0), ("back", 2)), 1)
        ahead = (("call", "a", 0), ("back", 1), ("call", "f", 1), ("back", 2))
        # 1 is a box, 2 a jar.
        self.lets(*ahead, ("call", "f", 0), ("back", 2))
        self.assertEqual(self.refused(*ahead, ("call", "f", 2), ("back", 2)), 4)
        self.assertEqual(self.refused(*ahead, ("call", "f", 3), ("back", 2)), 4)
        self.assertEqual(self.refused(*ahead, ("call", "f", 1), ("back", 1)), 5)
        self.assertEqual(self.refused(*ahead, ("call", "a", 1), ("back", 2)), 5)
        self.assertEqual(self.refused(*ahead, ("call", "a", 1), ("back", 4)), 5)
        self.lets(*ahead, ("call", "a", 1), ("back", 3))
        # No guest can hand out as many as the word.
        self.assertEqual(self.refused(*ahead, ("call", "a", 1), ("back", 3), ("call", "a", 1), ("back", 4)), 7)

    def test_foreign_things(self):
        self.lets(("call", "d", 1), ("back", 1), ("call", "d", 2), ("back", 1), ("call", "d", 3), ("back", 0))
        self.assertEqual(self.refused(("call", "d", 2), ("back", 1)), 0)
        self.assertEqual(self.refused(("call", "d", 0), ("back", 1)), 1)
        self.assertEqual(self.refused(("call", "d", 1), ("back", 2)), 1)
        ahead = (("call", "d", 1), ("back", 1), ("call", "d", 2), ("back", 1), ("call", "d", 3), ("back", 3))
        self.assertEqual(self.refused(*ahead, ("call", "d", 4), ("back", 1)), 6)
        self.lets(*ahead, ("call", "d", 3), ("back", 2))
        # What comes behind a call out counts, too.
        play = (("call", "e", 0), ("call", "g", 0), ("back", 1), ("back", 0), ("call", "d", 2), ("back", 2))
        self.lets(*play)
        self.assertEqual(self.refused(*play[:4], ("call", "d", 3), ("back", 2)), 4)
        self.assertEqual(self.refused(*play[:4], ("call", "d", 0), ("back", 2)), 5)

    def test_things_behind_calls(self):
        play = (("call", "e", 0), ("call", "h", 1), ("back", 1), ("back", 0))
        self.lets(*play)
        self.assertEqual(self.refused(("call", "e", 0), ("call", "h", 2), ("back", 0), ("back", 0)), 1)
        self.assertEqual(self.refused(("call", "e", 0), ("call", "h", 1), ("back", 2), ("back", 0)), 2)


class Names(unittest.TestCase):
    def test_doors_called_like_cells_and_locals(self):
        # Short names at the doors are not taken for cells or locals of the surroundings.
        book = Book(3, True, 2, True, True)
        guest = read_module(
            "module around\nclass a 3\nroom 1\nforeign b\nout c num 3 num 3\nout d thing b thing a\nentry e f num 3 num 3\n"
            "call f c f\nback f\nentry g h thing b thing a\nlocal i thing a\ncall i d h\nback i\nentry x y num 3 num 3\nback y"
        )
        play = (("call", "e", 1), ("call", "c", 1), ("call", "g", 1), ("call", "d", 1), ("back", 0), ("back", 0), ("back", 2), ("back", 2))
        self.assertEqual(own_run(book, guest, around(book, guest, play), (), 9), "shows")

    def test_more_names_than_letters(self):
        book = Book(16, True, 1, False, False)
        text = "module m\nclass box 2\nroom 15\nforeign far\ncell k thing far\nentry a x num 2 thing box\nlocal t thing box\n" \
            "make t box x\nback t\nentry f x thing far thing far\nback x"
        guest = read_module(text)
        play = ()
        for place in range(1, 16):
            play += (("call", "a", 1), ("back", place), ("call", "f", place), ("back", place))
        for end in (56, 60):
            amid = around(book, guest, play[:end])
            self.assertGreater(len(amid.cells), 26)
            self.assertEqual(own_run(book, guest, amid, (), 40), "shows")
        play = play[:56] + (("call", "f", 1), ("back", 2))
        self.assertEqual(own_run(book, guest, around(book, guest, play), (), 40), "never")


if __name__ == "__main__":
    unittest.main()
