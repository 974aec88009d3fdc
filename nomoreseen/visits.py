"""Runs of strangers that are told rightly, row by row, amid code."""

from nomoreseen.ticks import done, room_at_first


class Visit:
    """A stranger amid the code of a guest; changes are the pokes since the last deed."""

    def __init__(self, code, secrets, stranger):
        self.code = code
        self.room = room_at_first(code, secrets)
        self.steps = stranger.rows
        self.registers = [0, 0, 0]
        self.flag = 0
        self.cells = [0] * stranger.cells
        self.frames = []
        self.which = 0
        self.at_row = 0
        self.changes = []
        self.seen = []
        self.script = []
        self.how = None

    def goes(self, most):
        """Runs at most so many rows; how it ended."""
        ran = 0
        while self.how is None:
            if ran == most:
                return "most"
            if self.at_row == len(self.steps):
                return "end"
            ran += 1
            told = self.steps[self.at_row]
            self.at_row += 1
            step = STEPS[told[0]]
            step(self, told)
        return self.how

    def does(self, deed):
        """Does a deed, told without its changes, and stands behind its out-move."""
        whole = deed + (tuple(self.changes),)
        self.changes = []
        sight, _, self.room = done(self.code, self.room, whole)
        self.script.append(whole)
        self.seen.append(sight)
        if self.room is None:
            self.how = "never"
            return
        out, first, second, self.flag, laid = sight
        self.registers = [out[-1], first, second]
        self.frames = [list(frame) for frame in laid]
        self.which = 0
        if out[0] == "call":
            self.which = (1 + self.code.module.out_numbers[out[1]]) % self.code.book.word

    def has_word(self, frame, place):
        """Whether there is such an open frame, and such a place in it."""
        return frame < len(self.frames) and place < len(self.frames[frame])


def _const(visit, row):
    visit.registers[row[1]] = row[2]


def _plus(visit, row):
    both = visit.registers[row[1]] + visit.registers[row[2]]
    visit.registers[row[1]] = both % visit.code.book.word


def _equal(visit, row):
    visit.flag = 1 if visit.registers[row[1]] == visit.registers[row[2]] else 0


def _jump(visit, row):
    visit.at_row = row[1]


def _jump_if(visit, row):
    if visit.flag == 1:
        visit.at_row = row[1]


def _load(visit, row):
    visit.registers[row[1]] = visit.cells[row[2]]


def _store(visit, row):
    visit.cells[row[1]] = visit.registers[row[2]]


def _peek(visit, row):
    _, into, frame, place = row
    visit.registers[into] = visit.frames[frame][place] if visit.has_word(frame, place) else 0


def _poke(visit, row):
    _, frame, place, start = row
    word = visit.registers[start]
    visit.changes.append((frame, place, word))
    if visit.has_word(frame, place):
        visit.frames[frame][place] = word


def _which(visit, row):
    visit.registers[row[1]] = visit.which


def _enter(visit, row):
    visit.does(("call", row[1], visit.registers[row[2]]))


def _reply(visit, row):
    visit.does(("back", visit.registers[row[1]]))


def _end(visit, row):
    visit.how = "end"


STEPS = {
    "const": _const, "plus": _plus, "equal": _equal, "jump": _jump, "jumpif": _jump_if, "load": _load,
    "store": _store, "peek": _peek, "poke": _poke, "which": _which, "enter": _enter, "reply": _reply, "end": _end,
}
