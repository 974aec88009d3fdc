"""[55] The desk and its commands."""

import random
import unittest

from nomoreseen.compiler import compiled
from nomoreseen.desk import Desk
from nomoreseen.errors import InvalidCommand, InvalidIndex, InvalidModule, InvalidSecrets, InvalidSize, Refused
from nomoreseen.live import Live
from nomoreseen.modules import Book
from nomoreseen.secrets import least_guards, least_leaks
from nomoreseen.sights import sights
from nomoreseen.spots import bites, spots, spots_of
from nomoreseen.strangers import script_text
from nomoreseen.texts import book_text, module_text, play_text
from tests import makers
from tests.anything import values
from tests.scripts import random_deed, random_script
from tests.test_calm import HAND, MODULE
from tests.test_machine import module_of
from tests.test_secrets import EIGHT, LEAKING, MANY, small_guest

TEXT = module_text(MODULE)
AROUND = "module around\nroom 0\nout e num 2 num 2\nentry main x num 3 num 3\nlocal t num 2\ncall t e t\nshow\nentry g x num 2 num 2\nback x"
NEITHER = "module none\nroom 0\nentry e x num 4 num 4\nback x"
# The same doors as m; it keeps no frame, and answers x, where m answers z, which is 0.
OTHER = TEXT.replace("module m", "module o").replace("back z", "back p")
# As m, in other rows.
LIKE = TEXT.replace("module m", "module like").replace("if s 0 3\ncall t g z\ngo 4\ncall t g z\nback z", "call t g z\nback z")
WRONG = [
    "", " ", "\n", "nothing", "book", "book 3", "book 3 narrow things 0", "book 2 narrow things 0 alone", "book 3 narrow things 0 alone\n",
    "book 3 narrow things 0 alone\nbook 3 narrow things 0 alone", "text", "text z", "text m m", "text 3", "text m\n", "Text m", "bites m", "bites W", "bites\nbites",
    "quiet w", "quiet X", "quiet W m", "quiet W\n", "spots", "spots z", "spots around", "spots none", "spots m m", "leaks", "leaks around", "leaks none", "leaks m W",
    "guards", "guards z", "guards around", "guards m m", "try", "try z", "try around W", "try none", "try m X", "try m W w", "try m wipe", "try W m",
    "start", "start z 0", "start around", "start none", "start m", "start m 2", "start m 0 0", "start m x", "start m -1", "start m 01", "start m 0\n",
    "play m", "play 0", "undo", "undo m", "undo 1000", "undo -1", "undo 0 0", "undo 00", "undo 0\n", "exchange", "exchange z 0", "exchange around",
    "exchange none 0", "exchange m", "exchange m 2", "exchange m 0 0", "exchange m x", "call", "call e", "call e 3", "call z 0", "call e 0 0", "call e 0 poke 0 0",
    "call e 0 poke 0 0 3", "call e 0\n", "call e 0\ncall e 0", "back", "back 3", "back e 0", "back 0 poke a 0 0", "never", "wipe g", "3", "module_", "show",
    "parting_moves m", "deed call e 0", "quit", "m", "m guest", "spots\tm", "text\nm",
]
RUNNING = ["play", "undo 0", "call e 0", "back 0", "exchange m 0", "exchange like 0"]


def desk_of(*commands):
    desk = Desk()
    for command in commands:
        desk.say(command)
    return desk


def full_desk(*more):
    return desk_of(book_text(HAND), TEXT, AROUND, NEITHER, OTHER, LIKE, *more)


class Answers(unittest.TestCase):
    def refused(self, desk, command):
        with self.assertRaises(InvalidCommand) as caught:
            desk.say(command)
        self.assertIs(type(caught.exception), InvalidCommand)

    def test_ahead_of_a_book(self):
        desk = Desk()
        for command in WRONG + RUNNING + [TEXT, AROUND, "module", "bites", "quiet", "quiet W", "text m", "spots m", "leaks m", "guards m", "try m", "start m 0"] + values():
            if command != "book 3 narrow things 0 alone":
                self.refused(desk, command)
        self.assertEqual(desk.say("  book 3  narrow things 0 outs "), "book 3 narrow things 0 outs")

    def test_a_book_alone(self):
        desk = desk_of("book 4 narrow things 2 inside")
        for command in WRONG + RUNNING + ["text m", "spots m", "leaks m", "guards m", "try m", "start m 0", "start m"] + values():
            if command != "book 3 narrow things 0 alone":
                self.refused(desk, command)
        self.assertEqual(desk.say("bites"), "W K H C N S B")
        self.assertEqual(desk.say(command="quiet"), "lacks W K H C N S B")
        self.assertEqual(desk.say("quiet R B  S N C H K W"), "quiet")
        self.assertEqual(desk.say("quiet W B B W R"), "lacks K H C N S")
        self.assertEqual(desk_of("book 3 whole things 0 alone").say("bites"), "W")
        self.assertEqual(desk_of("book 3 whole things 0 alone").say("quiet W"), "quiet")

    def test_books(self):
        for word, narrow, things, outs, inside in ((3, True, 0, False, False), (16, False, 2, True, True), (5, True, 1, True, False)):
            text = book_text(Book(word, narrow, things, outs, inside))
            self.assertEqual(Desk().say(text), text)
        # A book lets all go, the same one, too.
        for command in ("book 4 whole things 0 outs", book_text(HAND)):
            desk = full_desk("start m 0", "call e 0")
            self.assertEqual(desk.say(command), command)
            for known in ("text m", "spots m", "start m 0") + tuple(RUNNING):
                self.refused(desk, known)

    def test_modules(self):
        desk = desk_of(book_text(HAND))
        self.assertEqual([desk.say(text) for text in (TEXT, AROUND, NEITHER)], ["m guest", "around around", "none neither"])
        self.assertEqual(desk.say("  " + TEXT.replace(" ", "  ")), "m guest")
        self.assertEqual([desk.say("text " + name) for name in ("m", "around", "  none")], [TEXT, AROUND, NEITHER])
        # Another one by the same name.
        self.assertEqual(desk.say(NEITHER.replace("none", "m")), "m neither")
        self.assertEqual(desk.say("text m"), NEITHER.replace("none", "m"))
        self.refused(desk, "spots m")
        self.assertEqual(desk.say(TEXT), "m guest")
        self.assertEqual(desk.say("spots m").split("\n")[0], "alone e")

    def test_wrong_modules(self):
        desk = full_desk()
        lines = TEXT.split("\n")
        self.assertEqual(desk.say("module"), "line 0")
        self.assertEqual(desk.say("  module M\nroom 0"), "line 0")
        self.assertEqual(desk.say("module m"), "line 1")
        self.assertEqual(desk.say("module m\n"), "line 1")
        for at in range(1, len(lines) + 1):
            self.assertEqual(desk.say("\n".join(lines[:at] + ["", "module"])), f"line {at}")
        self.assertEqual(desk.say("\n".join(lines[:-1])), f"line {len(lines) - 1}")
        self.assertEqual(desk.say("text m"), TEXT)
        self.refused(desk, "\n" + TEXT)

    def test_spots_leaks_and_guards(self):
        desk = full_desk()
        self.assertEqual(desk.say("spots m"), "alone e\nbelow e\nbelow g\nframe g\nwipe e\nwipe g\nidle")
        self.assertEqual((desk.say("leaks m"), desk.say("guards m")), ("wipe g", "wipe g"))
        book, module = LEAKING
        desk = desk_of(book_text(book), module_text(module))
        self.assertEqual(desk.say("leaks m"), "below wide, wipe wide\ngiven read\nwipe make")
        self.assertEqual(desk.say("guards m"), "below wide, given read, wipe make\ngiven read, wipe make, wipe wide")
        self.assertIn("\nnumber", desk.say("spots m"))
        plain = desk_of("book 3 narrow things 0 alone", "module m\nroom 0\nentry e x num 3 num 3\nback x", "module n\nroom 0\nentry e x num 3 num 3\ngo 0")
        self.assertEqual((plain.say("leaks m"), plain.say("guards m"), plain.say("spots n")), ("", "none", ""))
        eight = desk_of(book_text(HAND), module_text(EIGHT))
        self.assertEqual((eight.say("leaks m"), eight.say("guards m")), ("", "none"))
        self.assertEqual(desk_of(book_text(HAND), module_text(MANY)).say("leaks m"), "too many spots")
        self.assertEqual(desk_of(book_text(HAND), module_text(MANY)).say("guards m"), "too many spots")

    def test_try(self):
        desk = full_desk()
        self.assertEqual(desk.say("try m"), "")
        self.assertEqual(desk.say("try m W K"), "")
        script = "call e 0\nback 1\nback 0"
        self.assertEqual(desk.say("try m\n" + script), "call g 0 : 0 0 1 [0 0]\nback 0 : 0 0 0\nback 0 : 0 0 0")
        self.assertEqual(desk.say("try m W S B R K W\n" + script), "call g 0 : 0 0 0\nback 0 : 0 0 0\nnever")
        self.assertEqual(desk.say("try m W B\ncall e 1\ncall  e 2\nback 0 poke 1 0 0 poke 9 9 1"), "call g 0 : 0 0 0 [1 0]\ncall g 0 : 0 0 0 [1 0] [2 0]\n"
                         "back 0 : 0 0 0 [1 0]")
        self.assertEqual(desk.say("try m B\nback 0\ncall e 0\ncall e 0"), "behind never 1")
        self.assertEqual(desk.say("try m K\ncall e 0\ncall e 2\ncall e 0"), "behind never 2")
        for at, text in ((1, ""), (1, "\n"), (1, "call"), (2, "call e 0\n"), (2, "call e 0\nback 3\nnever"), (3, "back 0\nback 0\nbook 3 narrow things 0 alone"),
                         (1, "call z 0"), (1, "call e 0 poke 0 0")):
            self.assertEqual(desk.say("try m W B\n" + text), f"line {at}", text)

    def test_runs(self):
        desk = full_desk()
        for command in RUNNING:
            self.refused(desk, command)
        self.assertEqual(desk.say("start m 1"), "m runs")
        self.assertEqual((desk.say("play"), desk.say("undo 0")), ("", "behind 0"))
        self.assertEqual(desk.say("call e 1"), "call g 0 : 0 0 0")
        self.assertEqual(desk.say("play"), "call e 1\ncall g 0")
        self.assertEqual(desk.say("back 0 poke 0 0 1"), "back 0 : 0 0 0")
        self.assertEqual(desk.say("play"), "call e 1\ncall g 0\nback 0\nback 0")
        self.assertEqual([desk.say("back 0"), desk.say("back 0"), desk.say("call e 0")], ["never", "ended", "ended"])
        self.refused(desk, "call e 3")
        self.assertEqual(desk.say("play"), "call e 1\ncall g 0\nback 0\nback 0")
        self.assertEqual([desk.say("exchange like 0"), desk.say("undo 3"), desk.say("call e 0"), desk.say("undo 1")], ["ended", "behind 3", "ended", "behind 1"])
        self.assertEqual((desk.say("play"), desk.say("back 1")), ("call e 1\ncall g 0", "back 0 : 0 0 0"))
        self.assertEqual((desk.say("start m 0"), desk.say("play")), ("m runs", ""))
        # What runs goes on, whatever is kept by its name meanwhile.
        desk.say("call e 0")
        desk.say(NEITHER.replace("none", "m"))
        self.assertEqual((desk.say("play"), desk.say("back 0")), ("call e 0\ncall g 0", "back 0 : 0 0 0"))

    def test_exchange(self):
        desk = full_desk("start m 0", "call e 1")
        self.refused(desk, "exchange like")
        self.refused(desk, "exchange like 0 0")
        self.assertEqual(desk.say("exchange m 1"), "m runs")
        # o answers p, which is 1.
        self.assertEqual(desk.say("exchange o 0"), "seen at 1")
        self.assertEqual(desk.say("back 0"), "back 0 : 0 0 0")
        self.assertEqual(desk.say("exchange o 0"), "seen at 1")
        self.assertEqual((desk.say("undo 0"), desk.say("exchange o 0"), desk.say("exchange o 1")), ("behind 0", "seen at 0", "seen at 0"))
        desk.say("module p\nroom 0\nentry e x num 2 num 2\nback x")
        self.assertEqual([desk.say("exchange p"), desk.say("exchange p 0"), desk.say("exchange p x y")], ["other doors"] * 3)
        desk.say("back 0")
        self.assertEqual([desk.say("exchange p 7"), desk.say("exchange m 1")], ["other doors", "ended"])
        self.refused(desk, "exchange m 7")
        # Behind an exchange the other one's name and rows count.
        desk = full_desk("start m 0", "call e 1", LIKE.replace("secret s num 2\n", "cell s num 2\n"))
        self.assertEqual((desk.say("exchange like"), desk.say("back 1"), desk.say("undo 1"), desk.say("play")), (
            "like runs", "back 0 : 0 0 0", "behind 1", "call e 1\ncall g 0"))

    def test_refused_commands_change_nothing(self):
        desk, told = full_desk("start m 0", "call e 1"), full_desk("start m 0", "call e 1")
        for command in WRONG + values():
            if isinstance(command, str) and command in ("call e 0", "book 3 narrow things 0 alone"):
                continue
            self.refused(desk, command)
        for command in ("module x", "exchange o 0", "try m\ncall", "text m", "text like", "play", "back 0", "play", "undo 1", "exchange m 1", "back 1"):
            self.assertEqual(desk.say(command), told.say(command))

    def test_two_desks(self):
        one, other = full_desk("start m 0"), desk_of(book_text(HAND))
        self.refused(other, "play")
        self.refused(other, "text m")
        self.assertEqual(one.say("play"), "")


def sight_text(sight):
    if sight == (("never",),):
        return "never"
    frames = "".join(" [" + " ".join(map(str, frame)) + "]" for frame in sight[4])
    return " ".join(map(str, sight[0])) + " : " + " ".join(map(str, sight[1:4])) + frames


class Sessions(unittest.TestCase):
    def test_random_sessions(self):
        rng = random.Random(55)
        found = {}
        for _ in range(150):
            book = makers.random_book(rng)
            module = makers.random_guest(rng, book, makers.random_doors(rng, book), rows=5)
            other = makers.mutant(rng, module)
            desk = desk_of(book_text(book), module_text(module), module_text(other).replace("module m", "module o"))
            self.assertEqual(desk.say("spots m"), "\n".join(" ".join(spot).strip() for spot in spots(book, module)))
            tricks = [trick for trick in bites(book) if rng.random() < 0.6]
            code = compiled(book, module, spots_of(book, module, tricks))
            script = random_script(rng, code, (0,) * len(module.secret_cells()), 6)
            wanted = "\n".join(map(sight_text, sights(code, (0,) * len(module.secret_cells()), script)))
            self.assertEqual(desk.say("\n".join([" ".join(["try", "m", *tricks]), script_text(code, script)])), wanted)
            secrets = rng.choice(module.all_secrets())
            live = Live(book, module, secrets)
            self.assertEqual(desk.say(" ".join(["start", "m", *map(str, secrets)])), "m runs")
            for _ in range(12):
                self.step(rng, desk, live, book, (module, other), found)
        self.assertGreater(min(found.values()), 3, found)
        self.assertLessEqual({"deed", "undo", "play", "runs", "seen", "ended", "wrong"}, set(found))

    def step(self, rng, desk, live, book, guests, found):
        """One command, beside what a Live of its own does."""
        word = rng.choice(("deed", "deed", "deed", "undo", "play", "exchange"))
        if word == "deed":
            code = compiled(book, guests[0], ())
            room = live.room_behind() or ((), (), (), (), ())
            deed = random_deed(rng, code, room)
            said = desk.say(script_text(code, [deed]))
            if live.room_behind() is None:
                self.assertEqual(said, "ended")
                word = "ended"
            else:
                self.assertEqual(said, sight_text(live.deed(deed)))
        elif word == "undo":
            many = rng.randrange(len(live.deeds()) + 3)
            try:
                live.back_to(many)
                self.assertEqual(desk.say(f"undo {many}"), f"behind {many}")
            except InvalidIndex:
                with self.assertRaises(InvalidCommand):
                    desk.say(f"undo {many}")
        elif word == "play":
            self.assertEqual(desk.say("play"), play_text(guests[0], live.play()))
        else:
            word = self.exchange(rng, desk, live, guests)
        found[word] = found.get(word, 0) + 1

    def exchange(self, rng, desk, live, guests):
        which = rng.randrange(2)
        secrets = [rng.randrange(3) for _ in guests[which].secret_cells()]
        command = " ".join(["exchange", "mo"[which], *map(str, secrets)])
        try:
            live.exchange(guests[which], secrets)
        except InvalidSecrets:
            with self.assertRaises(InvalidCommand):
                desk.say(command)
            return "wrong"
        except Refused as error:
            self.assertEqual(desk.say(command), "ended" if error.at == -1 else f"seen at {error.at}")
            return "ended" if error.at == -1 else "seen"
        except InvalidSize:
            with self.assertRaises(InvalidSize):
                desk.say(command)
            return "size"
        self.assertEqual(desk.say(command), "mo"[which] + " runs")
        return "runs"

    def test_lots(self):
        rng = random.Random(56)
        told = 0
        for _ in range(60):
            book = makers.random_book(rng, (3,))
            module = small_guest(rng, book)
            if module is None or len(spots(book, module)) > 5:
                continue
            desk = desk_of(book_text(book), module_text(module))
            for word, find in (("leaks", least_leaks), ("guards", least_guards)):
                try:
                    lots = find(book, module)
                except InvalidSize:
                    continue
                wanted = "\n".join(", ".join(" ".join(spot).strip() for spot in lot) or "none" for lot, _ in lots)
                self.assertEqual(desk.say(word + " m"), wanted)
                told += 1
        self.assertGreater(told, 20)


if __name__ == "__main__":
    unittest.main()
