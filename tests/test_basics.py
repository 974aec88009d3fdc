"""[1], [2] The basics, and the interface: names, parameters, and the files in which things are defined."""

import inspect
import random
import unittest

from nomoreseen import around, back, books, calm, clock, compiler, crossings, desk, edges, errors, falls, frames, handles, hearing, linked
from nomoreseen import linker, live, machine, modules, piles, plain, plays, readback, rests, secrets as secrets_file, seen, sights, spared, spots
from nomoreseen import strangers, strikes, table, texts, webs, wide
from nomoreseen.modules import Book
from nomoreseen.texts import module_text, read_module
from tests.anything import values
from tests.makers import random_book, random_doors, random_guest, random_play
from tests.programs import random_fallen, random_program, random_secrets
from tests.scripts import random_deed, random_guards, random_script

INTERFACE = {
    crossings: {
        "least_ones": ["many", "lots"], "crossings": ["many", "lots"], "free_lots": ["many", "lots"],
        "are_crossings": ["many", "one", "other"],
    },
    webs: {
        "need_web": ["value"], "parted_bounds": ["web"], "is_parted": ["web", "bound"], "bounds_hold": ["web", "value"],
        "parting_way": ["web", "bound"], "evened": ["sizes", "pairs"],
    },
    modules: {
        "Book": ["word", "narrow", "things", "outs", "inside"],
        "Module": ["name", "classes", "room", "foreign", "cells", "outs", "entries"],
    },
    books: {"fits": ["book", "module"], "fits_around": ["book", "module"], "is_around": ["guest", "module"]},
    plain: {
        "begin": ["module", "secrets"], "fits_move": ["module", "state", "move"], "answered": ["module", "state", "move"],
        "trail": ["module", "state", "move"], "trimmed": ["module", "state"],
    },
    texts: {
        "module_text": ["module"], "read_module": ["text"], "book_text": ["book"], "read_book": ["text"],
        "play_text": ["module", "moves"], "read_play": ["module", "text"],
    },
    linked: {"own_run": ["book", "guest", "around", "secrets", "most"]},
    linker: {"Program": ["book", "modules", "links", "main"]},
    spots: {
        "trick_of": ["guard"], "bites": ["book"], "spots": ["book", "module"], "need_spots": ["book", "module", "value"],
        "spots_of": ["book", "module", "tricks"],
    },
    around: {"around": ["book", "module", "play"]},
    compiler: {"Code": ["book", "module", "guards"], "compiled": ["book", "module", "guards"]},
    edges: {"Facts": ["book", "module", "guards"]},
    piles: {
        "alike_paper": ["book", "one", "other", "secrets", "others"], "deep_play": ["book", "one", "other", "secrets", "others"],
        "alike_holds": ["book", "one", "other", "secrets", "others", "value"],
    },
    machine: {
        "first_room": ["code", "secrets"], "ticked": ["code", "room", "deed"], "entered": ["code", "room", "deed"],
    },
    plays: {
        "lawful_moves": ["book", "module", "state"], "answers": ["book", "module", "secrets", "moves"],
        "shortest_play": ["book", "one", "other", "secrets", "others"],
    },
    readback: {"read_code": ["value"]},
    rests: {
        "begin_rest": ["program", "fallen", "secrets"], "has_turn": ["program", "state"], "rest_moves": ["program", "fallen", "state"],
        "rest_answered": ["program", "fallen", "state", "move"], "rest_play": ["program", "fallen", "secrets", "moves"],
    },
    seen: {"Seen": ["facts"], "kept_names": ["book", "module", "guards"]},
    calm: {
        "calm_paper": ["book", "module", "bare", "secrets", "others"], "deep_leak": ["book", "module", "bare", "secrets", "others"],
        "pile_steps": ["book", "module", "bare", "secrets", "others"],
        "calm_holds": ["book", "module", "bare", "secrets", "others", "value"],
    },
    handles: {
        "needs": ["book", "module", "secrets", "moves"], "need_play": ["book", "module", "secrets", "moves", "place"],
        "list_room": ["book", "module", "secrets"], "LeastLists": ["book", "module", "secrets"],
    },
    hearing: {
        "rest_parting": ["program", "other", "fallen", "secrets", "others"], "rest_pairs": ["program", "other", "fallen", "secrets", "others"],
        "rest_pairs_hold": ["program", "other", "fallen", "secrets", "others", "value"],
        "plans_of": ["program", "fallen", "secrets", "moves"], "plans_run": ["program", "fallen", "secrets", "plans"],
        "least_hearing": ["program", "secrets", "others"], "greatest_deaf": ["program", "secrets", "others"],
    },
    live: {"room_of": ["module", "state", "known"], "Live": ["book", "module", "secrets"]},
    sights: {
        "sights": ["code", "secrets", "script"], "parting_script": ["one", "other", "secrets", "others", "most"],
        "due_sights": ["book", "module", "secrets", "script"], "play_of": ["book", "module", "secrets", "script"],
    },
    spared: {
        "spare_round": ["book", "module", "guards"], "spared": ["book", "module", "guards"],
        "careless": ["book", "module", "guards", "kind"], "edge_pair": ["book", "kind"],
    },
    strangers: {
        "Stranger": ["cells", "rows"], "stranger_run": ["code", "secrets", "stranger", "most"],
        "parted_by": ["one", "other", "secrets", "stranger", "most"], "script_stranger": ["code", "script"],
        "script_text": ["code", "script"], "read_script": ["code", "text"],
    },
    table: {"quiet": ["book", "tricks"], "need_holds": ["book", "tricks", "value"], "least_quiet": ["books"]},
    wide: {
        "wide_sights": ["book", "module", "guards", "secrets", "script"], "wide_rows": ["book", "module", "guards", "secrets", "script"],
        "honest_script": ["book", "module", "guards", "secrets", "moves"],
    },
    back: {"around_for": ["book", "one", "other", "secrets", "others", "script"]},
    frames: {"piled_sights": ["book", "module", "guards", "kept", "room", "secrets", "script"]},
    falls: {"fallen_sights": ["program", "fallen", "secrets", "bare", "script"]},
    secrets_file: {
        "classes": ["book", "module"], "is_enough": ["book", "module", "guarded"], "least_leaks": ["book", "module"],
        "least_guards": ["book", "module"], "leaks_hold": ["book", "module", "value"], "guards_hold": ["book", "module", "value"],
        "both_hold": ["book", "module", "leaks", "guards"],
    },
    clock: {
        "ticks_along": ["book", "module", "secrets", "moves"], "padding": ["book", "module", "secrets", "moves", "so_far"],
        "most_padding": ["book", "module", "so_far"],
    },
    desk: {"Desk": []},
    strikes: {
        "fallen_parting": ["program", "other", "fallen", "secrets", "others", "bare"],
        "fallen_pairs": ["program", "other", "fallen", "secrets", "others", "bare"],
        "fallen_pairs_hold": ["program", "other", "fallen", "secrets", "others", "bare", "value"], "drawing": ["guard"],
        "drawing_holds": ["guard", "value"],
    },
}
METHODS = {
    modules.Module: {
        "entry_at": ["name"], "out_at": ["name"], "variables": ["name"], "calls": [], "secret_cells": [], "all_secrets": [],
    },
    edges.Facts: {"words_at": ["entry", "row"], "rest": [], "fields": [], "handed_out": ["own"], "is_behind": ["call"]},
    seen.Seen: {"ahead": ["entry", "row"]},
    handles.LeastLists: {"kept_places": [], "deed": ["move"]},
    live.Live: {
        "state": [], "room_behind": [], "deeds": [], "play": [], "deed": ["deed"], "back_to": ["many"],
        "parting_moves": ["module", "secrets"], "exchange": ["module", "secrets"],
    },
    desk.Desk: {"say": ["command"]},
}
SLOW = ("needs", "need_play", "list_room", "LeastLists", "calm_paper", "deep_leak", "pile_steps", "calm_holds", "spared", "careless",
        "parting_script", "classes", "is_enough", "least_leaks", "least_guards", "leaks_hold", "guards_hold", "both_hold", "most_padding", "padding",
        "fallen_parting", "fallen_pairs", "fallen_pairs_hold", "drawing_holds")
LEAKING = ("is_enough", "least_leaks", "least_guards", "leaks_hold", "guards_hold", "both_hold")
PAPERS = ("bounds_hold", "are_crossings", "alike_holds", "read_code", "calm_holds", "rest_pairs_hold", "need_holds", "leaks_hold", "guards_hold",
          "both_hold", "fallen_pairs_hold", "drawing_holds")


def told(value):
    """A result in a form that can be compared, whatever it is."""
    if isinstance(value, (list, tuple)):
        return type(value).__name__ + repr([told(part) for part in value])
    if isinstance(value, (int, str)) or value is None:
        return repr(value)
    if isinstance(value, dict):
        return repr([(name, told(value[name])) for name in value])
    if hasattr(value, "told"):
        return repr(value.told)
    if isinstance(value, handles.LeastLists):
        return repr(value.kept_places())
    return type(value).__name__ + repr([(name, told(vars(value)[name])) for name in sorted(vars(value))])


def outcome(call, parts, named):
    try:
        return told(call(**parts) if named else call(*parts.values()))
    except errors.SeamError as error:
        return type(error).__name__, repr(vars(error))


def lists(value):
    return [lists(part) for part in value] if type(value) in (list, tuple) else value


def special_parts(rng, book, guest, secrets, play):
    """What single functions are given, where it is not what their parameters are called for."""
    code = compiler.compiled(book, guest, random_guards(rng, book, guest))
    room = machine.first_room(code, secrets)
    deed = random_deed(rng, code, room)
    pair = {"one": guest, "other": guest, "secrets": secrets, "others": rng.choice(guest.all_secrets())}
    amid = {"code": code, "room": room, "deed": deed}
    special = {
        "Code": {"guards": code.guards}, "compiled": {"guards": code.guards}, "Facts": {"guards": code.guards}, "first_room": amid,
        "entered": amid, "ticked": amid, "answers": {"moves": play[::2]}, "shortest_play": pair, "alike_paper": pair, "deep_play": pair,
        "read_code": {"value": code.told},
    }
    quiet = book if not book.inside else Book(book.word, book.narrow, book.things, True, False)
    handed = {"book": quiet, "moves": (), "place": 1}
    special.update({name: handed for name in ("needs", "need_play", "list_room", "LeastLists")})
    # Frames of many words that lie open can be changed in too many ways for this.
    bare = {"bare": [spot for spot in code.guards if spot[0] != "frame"][:2], "others": pair["others"]}
    special.update({name: bare for name in ("calm_paper", "deep_leak", "pile_steps")})
    program = random_program(rng)
    fallen, told = random_fallen(rng, program), random_secrets(rng, program)
    state = rests.begin_rest(program, fallen, told)
    rest = {"program": program, "other": program, "fallen": fallen, "secrets": told, "others": told, "state": state,
            "move": rests.rest_moves(program, fallen, state)[0], "moves": rests.rest_moves(program, fallen, state)[:1]}
    rest["plans"] = hearing.plans_of(program, fallen, told, rest["moves"])
    rest["value"] = hearing.rest_pairs(program, program, fallen, told, told)
    for module in (rests, hearing):
        special.update({name: rest for name in INTERFACE[module]})
    special["Seen"] = {"facts": edges.Facts(book, guest, code.guards)}
    special.update(parts_of_scripts(rng, code, secrets, play))
    special.update(parts_of_programs(rng, rest))
    lots = leaks_of(book, guest)
    special.update({name: {"guarded": code.guards, "moves": play[::2], "so_far": rng.random() < 0.5, **lots} for name in (*INTERFACE[secrets_file], *INTERFACE[clock])})
    special["leaks_hold"], special["guards_hold"] = {"value": lots["leaks"]}, {"value": lots["guards"]}
    try:
        special["calm_holds"] = {**bare, "value": calm.calm_paper(book, guest, secrets=secrets, **bare)}
        special["alike_holds"] = {**pair, "value": piles.alike_paper(book, **pair)}
    except errors.InvalidSize:
        special["calm_holds"], special["alike_holds"] = bare, pair
    return special


def parts_of_scripts(rng, code, secrets, play):
    """What functions of scripts and strangers are given."""
    book, guest = code.book, code.module
    script = random_script(rng, code, secrets, 4)
    made = strangers.script_stranger(code, script)
    told = {"script": script, "guards": code.guards, "code": code, "secrets": secrets, "stranger": made, "most": 50, "moves": play[::2],
            "kept": seen.kept_names(book, guest, code.guards), "room": 9, "kind": rng.choice(spared.EDGES)}
    names = [name for file in (sights, spared, strangers, wide, frames) for name in INTERFACE[file]]
    special = {name: told for name in names}
    special["Stranger"] = {"cells": 2, "rows": made.rows}
    special["parting_script"] = {"one": code, "other": code, "others": rng.choice(guest.all_secrets()), "most": 1}
    special["parted_by"] = {**told, "one": code, "other": code, "secrets": (secrets, rng.choice(guest.all_secrets()))}
    special["read_script"] = {"code": code, "text": strangers.script_text(code, script)}
    special["around_for"] = {"one": guest, "other": guest, "others": rng.choice(guest.all_secrets()), "script": script}
    tricks = tuple(trick for trick in spots.TRICKS if rng.random() < 0.7)
    special["quiet"] = special["need_holds"] = {"tricks": tricks, "value": table.quiet(book, tricks)[1]}
    special["least_quiet"] = {"books": (book, book)}
    return special


def parts_of_programs(rng, rest):
    """What functions of fallen modules are given."""
    program = rest["program"]
    bare = tuple(name for name in ("who", "backof", "turn") if rng.random() < 0.5)
    script = [(rng.choice(rest["fallen"]), rng.choice(("call", "back")), rng.randrange(len(program.links)), 0)]
    if program.main[0] not in rest["fallen"]:
        first = falls.fallen_sights(program, rest["fallen"], rest["secrets"], bare, ())
        script = script if first[0][0] in ("call", "back") else []
    told = {**rest, "bare": bare, "script": script, "value": ()}
    special = {name: told for name in (*INTERFACE[falls], *INTERFACE[strikes])}
    special["drawing"] = {"guard": "who"}
    special["drawing_holds"] = {"guard": "turn", "value": strikes.drawing("turn")}
    return special


def leaks_of(book, guest):
    try:
        return {"leaks": secrets_file.least_leaks(book, guest), "guards": secrets_file.least_guards(book, guest)} if rarely(guest) else {"leaks": (), "guards": ()}
    except errors.InvalidSize:
        return {"leaks": (), "guards": ()}


def rarely(guest):
    """Whether frames of the guest are small enough for all words of an open one."""
    return all(len(guest.entries[entry][4]) < 3 for entry, _ in guest.calls())


class Interface(unittest.TestCase):
    def test_names_and_parameters(self):
        for module, things in INTERFACE.items():
            for name, parameters in things.items():
                thing = getattr(module, name)
                self.assertEqual(thing.__module__, module.__name__)
                self.assertEqual(list(inspect.signature(thing).parameters), parameters)
        for made, methods in METHODS.items():
            for name, parameters in methods.items():
                self.assertEqual(list(inspect.signature(vars(made)[name]).parameters), ["self"] + parameters)


class Calls(unittest.TestCase):
    def check(self, call, parts):
        """Equal calls have equal results, by position or by names, with tuples or with lists."""
        first = outcome(call, parts, False)
        listed = {name: lists(value) for name, value in parts.items()}
        before = repr(listed)
        for told_parts, named in ((parts, True), (parts, False)):
            self.assertEqual(outcome(call, told_parts, named), first)
        return first, outcome(call, listed, False), outcome(call, listed, True), before == repr(listed)

    def some_parts(self, rng):
        """For each function arguments, mostly right ones."""
        book = random_book(rng)
        doors = random_doors(rng, book)
        guest = random_guest(rng, book, doors)
        secrets = rng.choice(guest.all_secrets())
        play, state = random_play(rng, book, guest, secrets, 4)
        move = play[0] if play else ("call", "e", 0)
        right = {
            "book": book, "module": guest, "guest": guest, "secrets": secrets, "state": state, "moves": play, "move": move,
            "play": play, "text": module_text(guest), "many": 4, "lots": ((0, 1), (1, 3)), "one": ((1,), (0, 3)), "most": 9,
            "other": ((0, 1), (1, 3)), "web": (2, ((0, 1, 2, 1), (1, 2, 1, 0))), "bound": 5, "sizes": (1, 2), "pairs": ((0, 1),),
            "guard": "wipe", "tricks": ("W", "R"), "name": "m", "modules": (guest, guest), "links": (), "main": ("m", "e"),
            "value": spots.spots(book, guest), "around": guest, "word": 3, "narrow": True, "things": 1, "outs": True,
            "inside": False, "known": [list(range(1, came + 1)) for came in state[3]],
        }
        for part, value in zip(INTERFACE[modules]["Module"], guest.told):
            right.setdefault(part, value)
        if play:
            right["around"] = around.around(book, guest, play)
        special = special_parts(rng, book, guest, secrets, play)
        for module, things in INTERFACE.items():
            for name, names in things.items():
                if name in SLOW and rng.random() < 0.85 or name in LEAKING and not rarely(guest):
                    continue
                parts = {at: special.get(name, {}).get(at, right.get(at)) for at in names}
                if name == "Module":
                    parts = dict(zip(names, guest.told))
                yield name, getattr(module, name), parts

    def test_equal_calls(self):
        rng = random.Random(2)
        for _ in range(60):
            for name, call, parts in self.some_parts(rng):
                if rng.random() < 0.3 and parts and name not in ("Seen", "has_turn", "rest_moves", "rest_answered"):
                    parts[rng.choice(list(parts))] = rng.choice(values())
                first, listed, named, unchanged = self.check(call, parts)
                self.assertTrue(unchanged)
                self.assertEqual(listed, named)
                if name not in PAPERS and isinstance(first, str):
                    self.assertEqual(listed, first, (name, parts))

    def test_first_wrong_argument(self):
        """What is wrong first is refused, whatever is wrong behind it."""
        rng = random.Random(3)
        met = {}
        for _ in range(25):
            for name, call, parts in self.some_parts(rng):
                names = list(parts)
                if name in ("Seen", "has_turn", "rest_moves", "rest_answered", "Module"):
                    continue
                for at, wrong in enumerate(names[:-1]):
                    # Of spots left bare it is told that they are looked at behind both secrets.
                    if wrong == "bare" and name in INTERFACE[calm]:
                        continue
                    for value in (None, -1, "?", (None,)):
                        bent = {**parts, wrong: value}
                        first = outcome(call, bent, False)
                        if not isinstance(first, tuple):
                            continue
                        met[name] = True
                        for junk in (None, -1, (None,)):
                            # A book and a module are one question: the main entry is looked at ahead of links.
                            later = {other: junk for other in names[at + 1:] if name != "Program" or (wrong, other) != ("links", "main")}
                            self.assertEqual(outcome(call, {**bent, **later}, False), first, (name, wrong, value, junk))
        self.assertGreater(len(met), 80)

    def test_bools_are_no_numbers(self):
        book = Book(3, True, 1, True, False)
        self.assertEqual(repr(book.told), "(3, True, 1, True, False)")
        for call, parts in [
            (crossings.crossings, (True, ())), (crossings.crossings, (2, ((False, True),))), (webs.need_web, ((True, ()),)),
            (webs.evened, ((True,), ())), (modules.Book, (3, True, True, True, False)), (modules.Book, (3, 1, 1, True, False)),
        ]:
            with self.assertRaises(errors.SeamError):
                call(*parts)

    def test_objects_are_no_sequences(self):
        made = read_module("module m\nroom 0\nentry e x num 2 num 2\nback x")
        for thing in (made, Book(3, True, 0, False, False)):
            with self.assertRaises(TypeError):
                list(thing)
            with self.assertRaises(TypeError):
                len(thing)
            with self.assertRaises(TypeError):
                0 in thing


if __name__ == "__main__":
    unittest.main()
