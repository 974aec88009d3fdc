"""[1], [2] The basics, and the interface: names, parameters, and the files in which things are defined."""

import inspect
import random
import unittest

from nomoreseen import around, books, crossings, errors, linked, linker, modules, plain, spots, texts, webs
from nomoreseen.modules import Book
from nomoreseen.texts import module_text, read_module
from tests.anything import values
from tests.makers import random_book, random_doors, random_guest, random_play

INTERFACE = {
    crossings: {
        "least_ones": ["many", "lots"], "crossings": ["many", "lots"], "free_lots": ["many", "lots"],
        "are_crossings": ["many", "one", "other"],
    },
    webs: {
        "need_web": ["value"], "parted_bounds": ["web"], "is_parted": ["web", "bound"], "bounds_hold": ["web", "value"],
        "parting_way": ["web", "bound"], "evened": ["sizes", "pairs"],
    },
    modules: {
        "Book": ["word", "narrow", "things", "outs", "inside"],
        "Module": ["name", "classes", "room", "foreign", "cells", "outs", "entries"],
    },
    books: {"fits": ["book", "module"], "fits_around": ["book", "module"], "is_around": ["guest", "module"]},
    plain: {
        "begin": ["module", "secrets"], "fits_move": ["module", "state", "move"], "answered": ["module", "state", "move"],
        "trail": ["module", "state", "move"], "trimmed": ["module", "state"],
    },
    texts: {
        "module_text": ["module"], "read_module": ["text"], "book_text": ["book"], "read_book": ["text"],
        "play_text": ["module", "moves"], "read_play": ["module", "text"],
    },
    linked: {"own_run": ["book", "guest", "around", "secrets", "most"]},
    linker: {"Program": ["book", "modules", "links", "main"]},
    spots: {
        "trick_of": ["guard"], "bites": ["book"], "spots": ["book", "module"], "need_spots": ["book", "module", "value"],
        "spots_of": ["book", "module", "tricks"],
    },
    around: {"around": ["book", "module", "play"]},
}
METHODS = {
    "entry_at": ["name"], "out_at": ["name"], "variables": ["name"], "calls": [], "secret_cells": [], "all_secrets": [],
}


def told(value):
    """A result in a form that can be compared, whatever it is."""
    return repr(value.told) if hasattr(value, "told") else repr(value)


def outcome(call, parts, named):
    try:
        return told(call(**parts) if named else call(*parts.values()))
    except errors.SeamError as error:
        return type(error).__name__, repr(vars(error))


def lists(value):
    return [lists(part) for part in value] if type(value) in (list, tuple) else value


class Interface(unittest.TestCase):
    def test_names_and_parameters(self):
        for module, things in INTERFACE.items():
            for name, parameters in things.items():
                thing = getattr(module, name)
                self.assertEqual(thing.__module__, module.__name__)
                self.assertEqual(list(inspect.signature(thing).parameters), parameters)
        for name, parameters in METHODS.items():
            method = vars(modules.Module)[name]
            self.assertEqual(list(inspect.signature(method).parameters), ["self"] + parameters)


class Calls(unittest.TestCase):
    def check(self, call, parts):
        """Equal calls have equal results, by position or by names, with tuples or with lists."""
        first = outcome(call, parts, False)
        listed = {name: lists(value) for name, value in parts.items()}
        before = repr(listed)
        for told_parts, named in ((parts, True), (parts, False)):
            self.assertEqual(outcome(call, told_parts, named), first)
        return first, outcome(call, listed, False), outcome(call, listed, True), before == repr(listed)

    def test_equal_calls(self):
        rng = random.Random(2)
        papers = ("bounds_hold", "are_crossings")
        calls = [(name, getattr(module, name), names) for module, things in INTERFACE.items() for name, names in things.items()]
        for _ in range(60):
            book = random_book(rng)
            doors = random_doors(rng, book)
            guest = random_guest(rng, book, doors)
            secrets = rng.choice(guest.all_secrets())
            play, state = random_play(rng, book, guest, secrets, 4)
            move = play[0] if play else ("call", "e", 0)
            right = {
                "book": book, "module": guest, "guest": guest, "secrets": secrets, "state": state, "moves": play, "move": move,
                "play": play, "text": module_text(guest), "many": 4, "lots": ((0, 1), (1, 3)), "one": ((1,), (0, 3)), "most": 9,
                "other": ((0, 1), (1, 3)), "web": (2, ((0, 1, 2, 1), (1, 2, 1, 0))), "bound": 5, "sizes": (1, 2), "pairs": ((0, 1),),
                "guard": "wipe", "tricks": ("W", "R"), "name": "m", "modules": (guest, guest), "links": (), "main": ("m", "e"),
                "value": spots.spots(book, guest), "around": guest, "word": 3, "narrow": True, "things": 1, "outs": True,
                "inside": False,
            }
            for part, value in zip(INTERFACE[modules]["Module"], guest.told):
                right.setdefault(part, value)
            if play:
                right["around"] = around.around(book, guest, play)
            for name, call, names in calls:
                parts = {at: right[at] for at in names}
                if name == "Module":
                    parts = dict(zip(names, guest.told))
                if rng.random() < 0.3:
                    parts[rng.choice(names)] = rng.choice(values())
                first, listed, named, unchanged = self.check(call, parts)
                self.assertTrue(unchanged)
                self.assertEqual(listed, named)
                if name not in papers and isinstance(first, str):
                    self.assertEqual(listed, first, (name, parts))

    def test_bools_are_no_numbers(self):
        book = Book(3, True, 1, True, False)
        self.assertEqual(repr(book.told), "(3, True, 1, True, False)")
        for call, parts in [
            (crossings.crossings, (True, ())), (crossings.crossings, (2, ((False, True),))), (webs.need_web, ((True, ()),)),
            (webs.evened, ((True,), ())), (modules.Book, (3, True, True, True, False)), (modules.Book, (3, 1, 1, True, False)),
        ]:
            with self.assertRaises(errors.SeamError):
                call(*parts)

    def test_objects_are_no_sequences(self):
        made = read_module("module m\nroom 0\nentry e x num 2 num 2\nback x")
        for thing in (made, Book(3, True, 0, False, False)):
            with self.assertRaises(TypeError):
                list(thing)
            with self.assertRaises(TypeError):
                len(thing)
            with self.assertRaises(TypeError):
                0 in thing


if __name__ == "__main__":
    unittest.main()
