"""Guests amid strangers read by their own rows: these work on words, forged or not, instead of numbers."""

from nomoreseen.compiler import frame_size
from nomoreseen.modules import is_own
from nomoreseen.states import first_state
from nomoreseen.ticks import NEVER_SEEN, changed_frames
from nomoreseen.values import places_of


class Wide:
    """A guest with the guards of some spots; rows has (entry, row) gone through at the newest deed.

    handed has for each number on the list that of its class; own has (call, frame), or (call,) if the
    frame lies open. kept is None, or tells which variables a frame keeps on a pile of so many words.
    """

    def __init__(self, book, module, guards, secrets, kept=None, room=0):
        self.book = book
        self.module = module
        self.guards = {spot: True for spot in guards}
        self.is_renamed = ("number", "") in self.guards
        self.call_rows = module.calls()
        self.call_numbers = places_of(self.call_rows)
        self.kept = kept
        self.room = room
        self.cells = list(first_state(module, secrets)[0])
        self.frame = []
        self.things = []
        self.handed = {}
        self.own = []
        self.laid = ()
        self.rows = []
        self.left = [0, 0, 0]
        self.out = None

    def does(self, deed):
        """What is seen of a deed; behind a never no deed can be done."""
        self.rows = []
        self.left = [0, 0, 0]
        self.out = None
        self.laid = changed_frames(self.laid, deed[-1])
        if deed[0] == "call":
            self.comes_in(self.module.entry_numbers[deed[1]], deed[2])
        else:
            self.comes_back(deed[1])
        if self.out == ("never",):
            return NEVER_SEEN
        return (self.out, self.left[0], self.left[1], self.left[2], self.laid)

    def stops(self):
        """The guest stops."""
        self.out = ("never",)

    def comes_in(self, entry, word):
        """Goes in at the door of an entry."""
        name, _, kind, _, inner, _ = self.module.entries[entry]
        number = self.number_in(name, kind, word)
        if number is None or (("alone", name) in self.guards and self.own):
            self.stops()
            return
        self.frame = [number] + [0] * len(inner)
        self.goes_on(entry, 0)

    def comes_back(self, word):
        """Goes in at the door for backs."""
        if not self.call_rows or (("idle", "") in self.guards and not self.own):
            self.stops()
            return
        call = self.takes_frame()
        entry, row = self.call_rows[call]
        step = self.module.steps[entry][row]
        name, _, kind = self.module.outs[step[2]]
        number = self.number_in(name, kind, word)
        if number is None:
            self.stops()
            return
        self.put(step[1], number)
        self.goes_on(entry, row + 1)

    def takes_frame(self):
        """The number of the newest call, whose frame is taken off; call 0 with a frame of 0 if none waits."""
        if not self.own:
            self.frame = [0] * frame_size(self.module, self.call_rows[0][0])
            return 0
        taken = self.own.pop()
        if len(taken) == 2:
            self.frame = list(taken[1])
        else:
            self.frame = list(self.laid[-1])
            self.laid = self.laid[:-1]
        return taken[0]

    def number_in(self, seam, kind, word):
        """What comes in with a word; None if a guard of the seam stops it."""
        if kind[0] == "num":
            return None if ("below", seam) in self.guards and word >= kind[1] else word
        if not is_own(self.module, kind) or word == 0:
            return word
        number = self.in_order(word) if self.is_renamed else word
        if number not in self.handed:
            return None if ("given", seam) in self.guards else number
        is_other = self.handed[number] != self.module.own_at[kind[1]]
        return None if is_other and ("class", seam) in self.guards else number

    def in_order(self, place):
        """The number at this place: first come those on the list, then all others."""
        numbers = list(self.handed)
        numbers.extend([number for number in range(1, self.book.word) if number not in self.handed])
        return numbers[place - 1]

    def word_out(self, kind, number):
        """The word by which something goes out; a thing is on the list then."""
        if number == 0 or not is_own(self.module, kind):
            return number
        if number not in self.handed:
            self.handed[number] = self.module.own_at[kind[1]]
        return list(self.handed).index(number) + 1 if self.is_renamed else number

    def word_of(self, variable):
        """The word that a variable holds."""
        many = len(self.cells)
        return self.cells[variable] if variable < many else self.frame[variable - many]

    def put(self, variable, word):
        """A variable holds a word from now on."""
        many = len(self.cells)
        if variable < many:
            self.cells[variable] = word
        else:
            self.frame[variable - many] = word

    def goes_on(self, entry, row):
        """Goes from row to row until it goes out, stops, or is on a round."""
        seen = set()
        while self.out is None:
            ahead = (row, tuple(self.cells), tuple(self.frame), tuple(self.things))
            if ahead in seen:
                self.stops()
                return
            seen.add(ahead)
            self.rows.append((entry, row))
            step = self.module.steps[entry][row]
            if step[0] == "back":
                self.answers(entry, step)
            elif step[0] == "call":
                self.calls_out(entry, row, step)
            else:
                does_row = ROWS[step[0]]
                row = does_row(self, step, row)

    def answers(self, entry, step):
        """Does a row back."""
        name, _, _, kind, _, _ = self.module.entries[entry]
        self.out = ("back", self.word_out(kind, self.word_of(step[1])))
        self.wipes(name)

    def calls_out(self, entry, row, step):
        """Does a row call."""
        name, kind, _ = self.module.outs[step[2]]
        word = self.word_out(kind, self.word_of(step[3]))
        call = self.call_numbers[(entry, row)]
        if self.kept is not None and self.pile_size() + self.call_size(call) > self.room:
            self.stops()
            return
        if ("frame", name) in self.guards:
            self.own.append((call, self.kept_frame(call)))
        else:
            self.own.append((call,))
            self.laid = self.laid + (tuple(self.frame),)
        self.out = ("call", name, word)
        self.wipes(name)

    def kept_frame(self, call):
        """The frame with 0 in the place of what isn't kept of it."""
        if self.kept is None:
            return tuple(self.frame)
        many = len(self.cells)
        return tuple([
            word if at + many in self.kept[call] else 0 for at, word in enumerate(self.frame)
        ])

    def call_size(self, call):
        """How many words a waiting call takes."""
        return 1 if self.kept[call] is None else 1 + len(self.kept[call])

    def pile_size(self):
        """How many words all waiting calls take."""
        return sum([self.call_size(told[0]) for told in self.own])

    def wipes(self, seam):
        """Leaves nothing in R1, R2, Z if that is guarded here."""
        if ("wipe", seam) in self.guards:
            self.left = [0, 0, 0]


def _set(wide, step, row):
    return _holds(wide, step[1], step[2], row)


def _copy(wide, step, row):
    return _holds(wide, step[1], wide.word_of(step[2]), row)


def _add(wide, step, row):
    return _holds(wide, step[1], (wide.word_of(step[1]) + step[2]) % step[3], row)


def _holds(wide, variable, word, row):
    wide.put(variable, word)
    wide.left[0] = word
    return row + 1


def _if(wide, step, row):
    word = wide.word_of(step[1])
    wide.left[0] = word
    wide.left[2] = 1 if word == step[2] else 0
    return step[3] if word == step[2] else row + 1


def _go(wide, step, row):
    return step[1]


def _same(wide, step, row):
    word, other = wide.word_of(step[1]), wide.word_of(step[2])
    wide.left = [word, other, 1 if word == other else 0]
    return step[3] if word == other else row + 1


def _make(wide, step, row):
    if len(wide.things) >= wide.module.room:
        wide.stops()
        return row
    field = wide.word_of(step[3])
    wide.things.append((step[2], field))
    wide.left[0] = field
    wide.left[1] = len(wide.things)
    wide.put(step[1], len(wide.things))
    return row + 1


def _read(wide, step, row):
    number = wide.word_of(step[2])
    if number == 0:
        wide.stops()
        return row
    field = wide.things[number - 1][1] if number <= len(wide.things) else 0
    wide.put(step[1], field)
    wide.left[0] = field
    wide.left[1] = number
    return row + 1


def _write(wide, step, row):
    number, field = wide.word_of(step[1]), wide.word_of(step[2])
    if number == 0:
        wide.stops()
        return row
    if number <= len(wide.things):
        wide.things[number - 1] = (wide.things[number - 1][0], field)
    wide.left[0] = field
    wide.left[1] = number
    return row + 1


ROWS = {
    "set": _set, "copy": _copy, "add": _add, "if": _if, "go": _go,
    "same": _same, "make": _make, "read": _read, "write": _write,
}
