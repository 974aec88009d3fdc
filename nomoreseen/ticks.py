"""Runs of the machine, row by row, of rooms and deeds that are told rightly."""

from nomoreseen.compiler import frame_size
from nomoreseen.states import first_state

NEVER_SEEN = (("never",),)


class Run:
    """The machine amid one deed, from a door on."""

    def __init__(self, code, room, word):
        cells, things, handed, own, laid = room
        self.code = code
        self.registers = [word, 0, 0]
        self.flag = 0
        self.cells = list(cells)
        self.frame = []
        self.things = list(things)
        self.handed = list(handed)
        self.own = list(own)
        self.laid = list(laid)
        self.amid = None
        self.call = None
        self.target = None
        self.out = None
        self.ticks = 0

    def does(self, rows):
        """Does rows up to one that stops, goes out or jumps."""
        self.target = None
        for row in rows:
            self.ticks += 1
            step = STEPS[row[0]]
            step(self, row)
            if self.out is not None or self.target is not None:
                return

    def stops(self):
        """The machine stops."""
        self.out = ("never",)

    def goes_on(self, row):
        """Does block by block from the one of this row on, until it goes out, stops or is on a round."""
        blocks = self.code.blocks[self.amid]
        seen = set()
        while self.out is None:
            ahead = (row, tuple(self.cells), tuple(self.frame), tuple(self.things))
            if ahead in seen:
                self.stops()
                return
            seen.add(ahead)
            self.does(blocks[row])
            row = row + 1 if self.target is None else self.target

    def comes_in(self, entry):
        """Goes in at the door of the entry of this number."""
        self.amid = entry
        self.frame = [0] * frame_size(self.code.module, entry)
        self.does(self.code.doors[entry])
        self.goes_on(0)

    def comes_back(self):
        """Goes in at the door for backs."""
        self.does(self.code.resume)
        if self.out is None:
            self.amid, row = self.code.call_rows[self.call]
            self.does(self.code.behind[self.call])
            self.goes_on(row + 1)

    def word_of(self, variable):
        """The word of a variable."""
        many = len(self.cells)
        return self.cells[variable] if variable < many else self.frame[variable - many]

    def thing_of(self, number):
        """(number of the class, field) of the thing of this number; None if it is none."""
        return self.things[number - 1] if 0 < number <= len(self.things) else None

    def place_of(self, number):
        """The place in the list of this number, from 1; 0 if it is not there."""
        found = [at + 1 for at, told in enumerate(self.handed) if told[0] == number]
        return found[0] if found else 0

    def named(self, by_place):
        """The number that R0 names."""
        word = self.registers[0]
        if word == 0 or not by_place:
            return word
        if word <= len(self.handed):
            return self.handed[word - 1][0]
        others = [number for number in range(1, self.code.book.word) if self.place_of(number) == 0]
        return others[word - 1 - len(self.handed)]


def room_at_first(code, secrets):
    """The room ahead of all deeds."""
    return (first_state(code.module, secrets)[0], (), (), (), ())


def done(code, room, deed):
    """(sight, ticks, room behind) of a deed; None for the room behind never."""
    run = Run(code, room, deed[-2])
    if deed[-1]:
        run.laid = list(changed_frames(room[4], deed[-1]))
    if deed[0] == "call":
        run.comes_in(code.module.entry_numbers[deed[1]])
    else:
        run.comes_back()
    if run.out == ("never",):
        return (NEVER_SEEN, run.ticks, None)
    laid = tuple(run.laid)
    sight = (run.out, run.registers[1], run.registers[2], run.flag, laid)
    return (sight, run.ticks, (tuple(run.cells), tuple(run.things), tuple(run.handed), tuple(run.own), laid))


def changed_frames(laid, changes):
    """The open frames behind changes done one behind another; what isn't there isn't changed."""
    frames = [list(frame) for frame in laid]
    for frame, place, word in changes:
        if frame < len(frames) and place < len(frames[frame]):
            frames[frame][place] = word
    return tuple([tuple(frame) for frame in frames])


def _const(run, row):
    run.registers[row[1]] = row[2]


def _load(run, row):
    run.registers[row[1]] = run.word_of(row[2])


def _store(run, row):
    many = len(run.cells)
    if row[1] < many:
        run.cells[row[1]] = run.registers[row[2]]
    else:
        run.frame[row[1] - many] = run.registers[row[2]]


def _plus(run, row):
    run.registers[row[1]] = (run.registers[row[1]] + row[2]) % row[3]


def _equal(run, row):
    run.flag = 1 if run.registers[row[1]] == row[2] else 0


def _same(run, row):
    run.flag = 1 if run.registers[row[1]] == run.registers[row[2]] else 0


def _jump(run, row):
    run.target = row[1]


def _jump_if(run, row):
    if run.flag == 1:
        run.target = row[1]


def _make(run, row):
    if len(run.things) >= run.code.module.room:
        run.stops()
    else:
        run.things.append((row[2], run.registers[1]))
        run.registers[row[1]] = len(run.things)


def _field(run, row):
    number = run.registers[row[2]]
    if number == 0:
        run.stops()
    else:
        thing = run.thing_of(number)
        run.registers[row[1]] = 0 if thing is None else thing[1]


def _put_field(run, row):
    number = run.registers[row[1]]
    thing = run.thing_of(number)
    if number == 0:
        run.stops()
    elif thing is not None:
        run.things[number - 1] = (thing[0], run.registers[row[2]])


def _kept(run, row):
    run.own.append((row[1], tuple(run.frame)))


def _opened(run, row):
    run.own.append((row[1],))
    run.laid.append(tuple(run.frame))


def _resume(run, row):
    calls = run.code.call_rows
    if not calls:
        run.stops()
    elif not run.own:
        run.call = 0
        run.frame = [0] * frame_size(run.code.module, calls[0][0])
    else:
        taken = run.own.pop()
        run.call = taken[0]
        run.frame = list(taken[1] if len(taken) > 1 else run.laid.pop())


def _hand(run, row):
    number = run.registers[0]
    if number == 0:
        return
    if run.place_of(number) == 0:
        run.handed.append((number, row[1]))
    if row[2]:
        run.registers[0] = run.place_of(number)


def _within(run, row):
    run.registers[0] = run.named(row[1])


def _out(run, row):
    run.out = ("call", run.code.module.outs[row[1]][0], run.registers[0])


def _answer(run, row):
    run.out = ("back", run.registers[0])


def _alone(run, row):
    if run.own:
        run.stops()


def _idle(run, row):
    if not run.own:
        run.stops()


def _below(run, row):
    if run.registers[0] >= row[1]:
        run.stops()


def _given(run, row):
    number = run.named(row[1])
    if number != 0 and run.place_of(number) == 0:
        run.stops()


def _class(run, row):
    place = run.place_of(run.named(row[2]))
    if place > 0 and run.handed[place - 1][1] != row[1]:
        run.stops()


def _wipe(run, row):
    run.registers[1] = 0
    run.registers[2] = 0
    run.flag = 0


STEPS = {
    "const": _const, "load": _load, "store": _store, "plus": _plus, "equal": _equal, "same": _same,
    "jump": _jump, "jumpif": _jump_if, "make": _make, "field": _field, "putfield": _put_field,
    "own": _kept, "lay": _opened, "resume": _resume, "hand": _hand, "within": _within, "out": _out,
    "answer": _answer, "alone": _alone, "idle": _idle, "below": _below, "given": _given,
    "class": _class, "wipe": _wipe,
}
