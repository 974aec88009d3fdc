"""[26] Needed places of the list, and lists that keep just these."""

import itertools
import random
import unittest

from nomoreseen.errors import InvalidBook, InvalidModule, InvalidPlay, InvalidSecrets, InvalidSize, LargeTable, Refused
from nomoreseen.handles import LeastLists, list_room, need_play, needs
from nomoreseen.modules import Book, Module
from nomoreseen.plain import answered, begin, trimmed
from nomoreseen.plays import answers
from tests import makers
from tests.anything import caught, values
from tests.test_machine import module_of

BOOK = Book(3, True, 2, True, False)
KEEPER = module_of(
    "class box 2", "room 2", "cell b thing box", "cell n num 2", "entry make x num 2 thing box", "local t thing box", "make t box x", "copy b t",
    "back t", "entry ask x thing box num 2", "if n 1 0", "set n 1", "back n", "entry last x num 2 thing box", "back b",
)


def shown(module, state, move, out):
    """The places that a move and its answer show, by the kinds of the doors."""
    if out == ("never",):
        return set()
    own = module.own_at
    if move[0] == "call":
        kind = module.entries[module.entry_at(move[1])][2]
        entry = module.entry_at(move[1])
    else:
        entry, row, _ = state[4][-1]
        kind = module.outs[module.steps[entry][row][2]][2]
    told = {move[-1]} if kind[0] == "thing" and kind[1] in own else set()
    kind = module.outs[module.out_at(out[1])][1] if out[0] == "call" else module.entries[entry][3]
    if kind[0] == "thing" and kind[1] in own:
        told.add(out[-1])
    return {place for place in told if 0 < place <= len(state[2])}


def slow_needs(book, module, state, most=300):
    """The needed places, by all raw states that come; None if they are too many."""
    places, seen, todo = set(), {state}, [state]
    while todo:
        now = todo.pop()
        for move in makers.lawful_moves(book, module, now):
            out, behind = answered(module, now, move)
            places |= shown(module, now, move, out)
            if behind is not None and behind not in seen:
                seen.add(behind)
                todo.append(behind)
        if len(seen) > most:
            return None
    return tuple(sorted(place for place in places if place <= len(state[2])))


def slow_play(book, module, state, place, most):
    """The least of the shortest plays that show a place, by trying all plays."""
    layer = [((), state)]
    for _ in range(most):
        behind = []
        for moves, now in layer:
            for move in sorted(makers.lawful_moves(book, module, now)):
                out, after = answered(module, now, move)
                if place in shown(module, now, move, out):
                    return moves + (move,)
                if after is not None:
                    behind.append((moves + (move,), after))
        if len(behind) > 3000:
            return "long"
        layer = sorted(behind)
    return None


def state_behind(module, secrets, moves):
    state = begin(module, secrets)
    for move in moves:
        _, state = answered(module, state, move)
    return state


class ByHand(unittest.TestCase):
    def test_needs(self):
        # The newest box can always go out again; any box comes in until n is 1.
        make, ask, last = ("call", "make", 0), ("call", "ask", 1), ("call", "last", 0)
        self.assertEqual(needs(BOOK, KEEPER, (), ()), ())
        self.assertEqual(needs(BOOK, KEEPER, (), (make,)), (1,))
        self.assertEqual(needs(BOOK, KEEPER, (), (make, make)), (1, 2))
        self.assertEqual(needs(BOOK, KEEPER, (), [list(make), list(make), ["call", "ask", 2]]), (2,))
        self.assertEqual(needs(BOOK, KEEPER, (), (make, ask)), (1,))
        self.assertEqual(needs(BOOK, KEEPER, (), (make, ask, make)), (2,))
        self.assertEqual(needs(book=BOOK, module=KEEPER, secrets=[], moves=(make, ask, ("call", "ask", 0))), ())
        self.assertEqual(needs(BOOK, KEEPER, (), (make, make, make)), ())
        self.assertEqual(list_room(BOOK, KEEPER, ()), 2)
        self.assertEqual(need_play(BOOK, KEEPER, (), (make, make), 1), (("call", "ask", 1),))
        self.assertEqual(need_play(BOOK, KEEPER, (), (make, make), 2), (("call", "ask", 2),))
        self.assertIsNone(need_play(BOOK, KEEPER, (), (make, make, ask), 1))
        self.assertEqual(need_play(BOOK, KEEPER, (), (make, make, ask), 2), (last,))
        self.assertEqual(need_play(book=BOOK, module=KEEPER, secrets=(), moves=(make,), place=1), (("call", "ask", 1),))

    def test_backs_are_least(self):
        module = module_of(
            "class box 2", "room 1", "cell n num 2", "out g thing box num 3", "out h num 3 thing box", "entry a x num 2 num 2", "local b thing box",
            "local k num 3", "make b box x", "call k g b", "call b h k", "call k g b", "back n", "entry c x num 2 num 2", "back n")
        moves = (("call", "a", 0), ("back", 2), ("back", 1))
        self.assertEqual(answers(BOOK, module, (), moves), (("call", "g", 1), ("call", "h", 2), ("call", "g", 1)))
        self.assertEqual(needs(BOOK, module, (), moves[:1]), (1,))
        self.assertEqual(need_play(BOOK, module, (), moves[:1], 1), (("back", 0), ("back", 1)))
        self.assertEqual(needs(BOOK, module, (), moves[:2]), (1,))
        self.assertEqual(needs(BOOK, module, (), moves), ())

    def test_places_that_only_go_out(self):
        module = module_of(
            "class box 2", "room 2", "cell b thing box", "cell c thing box", "out g thing box num 3", "entry make x num 2 thing box", "make c box x",
            "make b box x", "back b", "entry say x num 2 num 3", "local k num 3", "call k g b", "back k")
        make, say = ("call", "make", 0), ("call", "say", 0)
        self.assertEqual(needs(BOOK, module, (), (make,)), (1,))
        self.assertEqual(need_play(BOOK, module, (), (make,), 1), (say,))
        self.assertEqual(need_play(BOOK, module, (), (make, say), 1), (("back", 0), say))
        # The other thing is made, too, but it was never handed out.
        self.assertEqual(caught(InvalidSize, need_play, BOOK, module, (), (make,), 2), "place")
        self.assertEqual(list_room(BOOK, module, ()), 1)

    def test_things_that_were_never_handed_out(self):
        module = module_of("class box 2", "room 1", "cell b thing box", "entry make x num 2 num 2", "make b box x", "back x",
                           "entry give x num 2 thing box", "back b")
        make, give = ("call", "make", 0), ("call", "give", 0)
        self.assertEqual([needs(BOOK, module, (), moves) for moves in ((), (make,), (make, give))], [(), (), (1,)])
        self.assertEqual(caught(InvalidSize, need_play, BOOK, module, (), (make,), 1), "place")
        lists = LeastLists(BOOK, module, ())
        self.assertEqual([(lists.deed(move), lists.kept_places()) for move in (make, give)], [(("back", 0), ()), (("back", 1), (1,))])

    def test_errors(self):
        make = ("call", "make", 0)
        inside = Book(3, True, 2, True, True)
        for call, rest in ((needs, ((),)), (need_play, ((), 1)), (list_room, ()), (LeastLists, ())):
            self.assertEqual(caught(InvalidBook, call, inside, KEEPER, None, *rest), "inside")
            self.assertEqual(caught(InvalidModule, call, Book(3, True, 0, True, True), KEEPER, None, *rest), ("classes", 0))
            for value in values():
                if not isinstance(value, Book):
                    self.assertEqual(caught(InvalidBook, call, value, None, None, *rest), "book")
                if not isinstance(value, Module):
                    self.assertEqual(caught(InvalidModule, call, inside, value, None, *rest), ("module",))
                if value not in ((), []):
                    caught(InvalidSecrets, call, BOOK, KEEPER, value, *rest)
        for call, rest in ((needs, ()), (need_play, (None,))):
            for value in values():
                if value not in ((), []):
                    caught(InvalidPlay, call, BOOK, KEEPER, (), value, *rest)
            self.assertEqual(caught(InvalidPlay, call, BOOK, KEEPER, (), (("call", "ask", 9), ("call", "none", 0)), *rest), 1)
            self.assertEqual(caught(Refused, call, BOOK, KEEPER, (), (make, ("call", "ask", 2)), *rest), 1)
            self.assertEqual(caught(Refused, call, BOOK, KEEPER, (), (make,) * 4, *rest), 3)
        for place in [value for value in values() if value not in (1,) or isinstance(value, bool)] + [0, 2, -1, "1", None, (1,)]:
            if isinstance(place, bool) or place != 1:
                self.assertEqual(caught(InvalidSize, need_play, BOOK, KEEPER, (), (make,), place), "place")
        self.assertEqual(caught(InvalidSize, need_play, BOOK, KEEPER, (), (make,) * 3, 1), "place")

    def test_large_tables(self):
        cells = "abcdefgh"
        lines = ["class box 2", "room 2"] + ["cell c%s num 3" % name for name in cells] + ["cell b thing box"]
        lines += ["entry make x num 3 thing box", "local t thing box", "local z num 2", "make t box z", "copy b t", "back t",
                  "entry last x num 3 thing box", "back b", "entry e x num 3 num 3"]
        for at, name in enumerate(cells):
            lines += ["add c%s 1" % name, "if c%s 0 %d" % (name, 3 * at + 3), "back x"]
        module = module_of(*lines, "back x")
        make = (("call", "make", 0),)
        self.assertEqual(caught(LargeTable, needs, BOOK, module, (), ()), 3000)
        self.assertEqual(caught(LargeTable, list_room, BOOK, module, ()), 3000)
        self.assertEqual(caught(LargeTable, LeastLists, BOOK, module, ()), 3000)
        self.assertEqual(need_play(BOOK, module, (), make, 1), (("call", "last", 0),))
        self.assertEqual(caught(LargeTable, need_play, BOOK, module, (), make * 2, 1), 3000)
        self.assertEqual(needs(BOOK, module, (), make * 3), ())


class Lists(unittest.TestCase):
    def test_by_hand(self):
        lists = LeastLists(BOOK, KEEPER, ())
        make = ("call", "make", 0)
        self.assertEqual((lists.kept_places(), lists.deed(make), lists.kept_places()), ((), ("back", 1), (1,)))
        self.assertEqual((lists.deed(list(make)), lists.kept_places()), (("back", 2), (1, 2)))
        self.assertEqual((lists.deed(("call", "ask", 1)), lists.kept_places()), (("back", 1), (2,)))
        self.assertEqual((lists.deed(("call", "last", 1)), lists.kept_places()), (("back", 2), (2,)))
        self.assertEqual(lists.deed(move=("call", "ask", 1)), ("never",))
        self.assertEqual(lists.kept_places(), ())
        for value in values():
            self.assertEqual(caught(Refused, lists.deed, value), 0)

    def test_wrong_deeds_change_nothing(self):
        lists = LeastLists(book=BOOK, module=KEEPER, secrets=[])
        lists.deed(("call", "make", 0))
        for value in values() + [("call", "make"), ("call", "none", 0), ("back", True), ("never",), ("call", "make", 0, ())]:
            if value not in (("back", 0), "call e 0"):
                self.assertEqual(caught(InvalidPlay, lists.deed, value), 0)
                self.assertEqual(lists.kept_places(), (1,))
        self.assertEqual(lists.deed(("back", 0)), ("never",))
        self.assertEqual(caught(Refused, lists.deed, None), 0)

    def test_no_place_twice(self):
        module = module_of("class box 2", "room 2", "cell n num 3", "entry make x num 2 thing box", "local t thing box", "make t box x", "back t",
                           "entry ask x thing box num 3", "if n 1 0", "set n 1", "back n")
        lists = LeastLists(BOOK, module, ())
        make, ask = ("call", "make", 0), ("call", "ask", 1)
        self.assertEqual([lists.deed(make), lists.deed(ask), lists.kept_places()], [("back", 1), ("back", 1), ()])
        self.assertEqual([lists.deed(make), lists.kept_places()], [("back", 2), ()])

    def test_two_guests_side_by_side(self):
        one, other = LeastLists(BOOK, KEEPER, ()), LeastLists(BOOK, KEEPER, ())
        one.deed(("call", "make", 0))
        self.assertEqual((one.kept_places(), other.kept_places()), ((1,), ()))
        other.deed(("call", "ask", 0))
        self.assertEqual((one.deed(("call", "ask", 1)), one.kept_places()), (("back", 1), (1,)))


def random_keeper(rng):
    """A guest that makes things and hands them out, and does something with them elsewhere."""
    book = Book(3, True, rng.choice((1, 2)), rng.random() < 0.5, False)
    number, box = ("num", rng.choice((1, 2))), ("thing", "box")
    classes = [("box", number[1])] + ([("jar", number[1])] if book.things == 2 and rng.random() < 0.3 else [])
    kinds = [number, box, box] + [("thing", name) for name, _ in classes]
    outs = [("g", rng.choice(kinds), rng.choice(kinds))] if book.outs else []
    doors = classes, [], outs, [("f", "y", rng.choice((box, number)), rng.choice(kinds))]
    name, _, _, _, cells, _, entries = makers.random_guest(rng, book, doors, rows=6, secret=False).told
    cells = cells + (("kept", box, False),)
    rows = [("make", "t", "box", "x")] + [("copy", "kept", "t")] * (rng.random() < 0.5) + [("back", "t")]
    entries = (("e", "x", number, box, (("t", box),), rows),) + entries
    if rng.random() < 0.6:
        # What is kept goes out again when it was asked for twice.
        cells += (("turn", ("num", 3), False),)
        rows = (("if", "turn", 2, 3), ("add", "turn", 1), ("back", "none"), ("back", "kept"))
        entries += (("h", "x", number, box, (("none", box),), rows),)
    return book, Module(name, classes, 2, (), cells, outs, entries)


class Random(unittest.TestCase):
    def test_against_slow_search(self):
        rng = random.Random(26)
        found = {"needed": 0, "needless": 0, "plays": 0, "long": 0}
        for _ in range(250):
            book, module = random_keeper(rng)
            secrets = rng.choice(module.all_secrets())
            play, state = makers.random_play(rng, book, module, secrets, rng.randint(2, 6))
            wanted = slow_needs(book, module, state)
            if wanted is None:
                continue
            places = needs(book, module, secrets, play[::2])
            self.assertEqual(places, wanted)
            found["needed"] += len(places)
            found["needless"] += len(state[2]) - len(places)
            for place in range(1, len(state[2]) + 1):
                shows = need_play(book, module, secrets, play[::2], place)
                self.assertEqual(shows is None, place not in places)
                slow = slow_play(book, module, state, place, 4)
                if slow not in ("long", None):
                    self.assertEqual(shows, slow)
                    found["plays"] += 1
                    found["long"] += len(shows) > 1
        self.assertGreater(min(found.values()), 3, found)

    def test_list_rooms(self):
        rng = random.Random(27)
        rooms = []
        for _ in range(120):
            book, module = random_keeper(rng)
            secrets = rng.choice(module.all_secrets())
            first = begin(module, secrets)
            seen, todo = {first}, [first]
            while todo and len(seen) < 60:
                now = todo.pop()
                for move in makers.lawful_moves(book, module, now):
                    behind = answered(module, now, move)[1]
                    behind = behind and trimmed(module, behind)
                    if behind is not None and behind not in seen:
                        seen.add(behind)
                        todo.append(behind)
            if todo:
                continue
            told = [slow_needs(book, module, state) for state in seen]
            if None not in told:
                rooms.append(max(map(len, told)))
                self.assertEqual(list_room(book, module, secrets), rooms[-1])
        self.assertGreater(rooms.count(1) + rooms.count(2), 5)

    def test_lists_along_plays(self):
        rng = random.Random(28)
        kept = 0
        for _ in range(200):
            book, module = random_keeper(rng)
            secrets = rng.choice(module.all_secrets())
            try:
                lists = LeastLists(book, module, secrets)
            except LargeTable:
                continue
            state, done = begin(module, secrets), []
            for _ in range(6):
                moves = makers.lawful_moves(book, module, state)
                if not moves:
                    break
                move = rng.choice(moves)
                brought = shown(module, state, move, ("back", 0)) if move[-1] else set()
                out, behind = answered(module, state, move)
                needed = needs(book, module, secrets, done)
                self.assertEqual(lists.kept_places(), needed)
                kept += len(needed) < len(state[2])
                self.assertEqual(lists.deed(move), out)
                if brought - set(needed):
                    self.assertEqual(out, ("never",))
                done.append(move)
                if behind is None:
                    self.assertEqual(lists.kept_places(), ())
                    break
                state = behind
        self.assertGreater(kept, 20)

    def test_every_wrong_move_is_answered_never(self):
        book, module = BOOK, KEEPER
        for name, value in itertools.product(("make", "ask", "last"), range(4)):
            lists = LeastLists(book, module, ())
            lists.deed(("call", "make", 1))
            lawful = ("call", name, value) in makers.lawful_moves(book, module, state_behind(module, (), [("call", "make", 1)]))
            self.assertEqual(lists.deed(("call", name, value)) == ("never",), not lawful)


if __name__ == "__main__":
    unittest.main()
