"""Plays looked at from outside: which moves can come, whatever guest with these doors answers."""

from nomoreseen.errors import InvalidPlay, Refused
from nomoreseen.states import in_move, out_move
from nomoreseen.values import is_sequence


def need_play(module, value):
    """A play in, out, in, out, .. of moves of the module's doors, in tuples; not whether they can come."""
    if not is_sequence(value):
        raise InvalidPlay(-1)
    told = []
    for at, thing in enumerate(value):
        move = in_move(module, thing) if at % 2 == 0 else out_move(module, thing)
        if move is None or len(move) == 1 or (at == 0 and move[0] == "back"):
            raise InvalidPlay(at)
        told.append(move)
    if len(told) % 2 == 1 or not told:
        raise InvalidPlay(len(told))
    return tuple(told)


class Moment:
    """How far a play has come: what was handed out, what came, and which doors wait.

    handed has the class of each thing on the guest's list; came how many foreign things of each
    class there were; entries and outs the kinds back of calls not answered yet, the newest one last.
    """

    def __init__(self, book, module):
        self.book = book
        self.module = module
        self.handed = []
        self.came = {name: 0 for name in module.foreign}
        self.entries = []
        self.outs = []

    def kind(self, move, comes):
        """The kind of what goes over with this move; None if it cannot come in turn."""
        if move[0] == "call":
            return self.kind_of_call(move[1], comes)
        waiting = self.outs if comes else self.entries
        return waiting[-1] if waiting else None

    def kind_of_call(self, name, comes):
        """The kind that the door of this name takes; None if it may not be called now."""
        if not comes:
            return self.module.outs[self.module.out_at(name)][1]
        if self.outs and not self.book.inside:
            return None
        return self.module.entries[self.module.entry_at(name)][2]

    def lets(self, kind, value, comes):
        """Whether this value of this kind can go over now."""
        word, name = kind
        if word == "num":
            return value < name
        if value >= self.book.word:
            return False
        if name in self.came:
            return value <= self.came[name] + (1 if comes else 0)
        if value > len(self.handed):
            return not comes and value == len(self.handed) + 1
        return value == 0 or self.handed[value - 1] == name

    def is_new(self, kind, value):
        """Whether a thing goes over that never did."""
        if kind[0] == "num" or value == 0:
            return False
        if kind[1] in self.came:
            return value > self.came[kind[1]]
        return value > len(self.handed)

    def goes_on(self, move, kind, comes):
        """Stands behind this move."""
        if self.is_new(kind, move[-1]) and kind[1] in self.came:
            self.came[kind[1]] = move[-1]
        elif self.is_new(kind, move[-1]):
            self.handed.append(kind[1])
        if move[0] == "back":
            waiting = self.outs if comes else self.entries
            waiting.pop()
        elif comes:
            entry = self.module.entries[self.module.entry_at(move[1])]
            self.entries.append(entry[3])
        else:
            out = self.module.outs[self.module.out_at(move[1])]
            self.outs.append(out[2])


def need_comes(book, module, play):
    """For each move of a play (kind, whether a new thing goes over); Refused for one that cannot come."""
    moment = Moment(book, module)
    told = []
    for at, move in enumerate(play):
        comes = at % 2 == 0
        kind = moment.kind(move, comes)
        if kind is None or not moment.lets(kind, move[-1], comes):
            raise Refused(at)
        told.append((kind, moment.is_new(kind, move[-1])))
        moment.goes_on(move, kind, comes)
    return told
