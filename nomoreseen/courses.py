"""Which lawful play the deeds of strangers are, and a guest, all its spots guarded, amid them."""

from nomoreseen.compiler import Code
from nomoreseen.moves import is_lawful
from nomoreseen.runs import answer, kind_of_in_move
from nomoreseen.spots import spots
from nomoreseen.states import first_state
from nomoreseen.ticks import NEVER_SEEN, done, room_at_first


class Lawful:
    """The lawful play that deeds are; now is the plain state, None behind a never or a deed that is no move.

    moves is the play, in, out, in, out, ..; known has for each foreign class the words that came.
    """

    def __init__(self, book, module, secrets):
        self.book = book
        self.module = module
        self.now = first_state(module, secrets)
        self.known = {name: [] for name in module.foreign}
        self.moves = []

    def takes_deed(self, deed):
        """Stands behind a deed; its out-move, None if the deed is no lawful move."""
        move = self._lawful_move(deed)
        if move is None:
            self.now = None
            return None
        out, self.now = answer(self.module, self.now, move)
        self.moves.extend([move, out])
        return out

    def due_sight(self, deed):
        """Stands behind a deed; what the lawful play alone shows of it."""
        waiting = self.now[4]
        out = self.takes_deed(deed)
        if self.now is None:
            return NEVER_SEEN
        return (self._by_words(out, deed, waiting), 0, 0, 0, ())

    def _by_words(self, out, deed, waiting):
        """An out-move that tells a foreign thing by the word that came for it."""
        if out[0] == "call":
            kind = self.module.outs[self.module.out_numbers[out[1]]][1]
        else:
            entry = self.module.entry_numbers[deed[1]] if deed[0] == "call" else waiting[-1][0]
            kind = self.module.entries[entry][3]
        if kind[1] not in self.known or out[-1] == 0:
            return out
        return out[:-1] + (self.known[kind[1]][out[-1] - 1],)

    def _lawful_move(self, deed):
        """The lawful in-move that a deed is, None if it is none; a foreign word that is new is known then."""
        kind = kind_of_in_move(self.module, self.now, deed[:2])
        if kind is None:
            return None
        word = deed[-2]
        value = self._place_of(kind[1], word) if kind[1] in self.known else word
        move = (deed[0], value) if deed[0] == "back" else ("call", deed[1], value)
        if not is_lawful(self.book, self.module, self.now, move):
            return None
        if kind[1] in self.known and value > len(self.known[kind[1]]):
            self.known[kind[1]].append(word)
        return move

    def _place_of(self, name, word):
        """The place of the foreign thing for which a word stands, the next one for a new word."""
        if word == 0:
            return 0
        words = self.known[name]
        return words.index(word) + 1 if word in words else len(words) + 1


class Course:
    """A guest's code with all guards, amid deeds: its room, None behind a never, and the lawful play."""

    def __init__(self, book, module, secrets):
        self.code = Code(book, module, spots(book, module))
        self.lawful = Lawful(book, module, secrets)
        self.room = room_at_first(self.code, secrets)

    def does(self, deed):
        """Stands behind a deed; what is seen of it."""
        self.lawful.takes_deed(deed)
        sight, _, self.room = done(self.code, self.room, deed)
        return sight
