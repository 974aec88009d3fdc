"""A guest amid strangers, all its spots guarded: how deeds go on with its room and with its lawful play."""

from nomoreseen.compiler import Code
from nomoreseen.moves import is_lawful
from nomoreseen.runs import answer, kind_of_in_move
from nomoreseen.spots import spots
from nomoreseen.states import first_state
from nomoreseen.ticks import done


class Course:
    """What has come so far of deeds; now is the plain state, room the room, both None behind a never.

    moves is the lawful play, in, out, in, out, ..; known has for each foreign class the words that came.
    """

    def __init__(self, book, module, secrets):
        self.book = book
        self.module = module
        self.code = Code(book, module, spots(book, module))
        self.now = first_state(module, secrets)
        self.room = (self.now[0], (), (), (), ())
        self.known = {name: [] for name in module.foreign}
        self.moves = []

    def takes_deed(self, deed):
        """Stands behind a deed; what is seen of it."""
        move = self._lawful_move(deed)
        sight, _, self.room = done(self.code, self.room, deed)
        if move is None:
            self.now = None
            return sight
        out, self.now = answer(self.module, self.now, move)
        self.moves.extend([move, out])
        return sight

    def _lawful_move(self, deed):
        """The lawful in-move that a deed is, None if it is none; a foreign word that is new is known then."""
        kind = kind_of_in_move(self.module, self.now, deed[:2])
        if kind is None:
            return None
        word = deed[-2]
        value = self._place_of(kind[1], word) if kind[1] in self.known else word
        move = (deed[0], value) if deed[0] == "back" else ("call", deed[1], value)
        if not is_lawful(self.book, self.module, self.now, move):
            return None
        if kind[1] in self.known and value > len(self.known[kind[1]]):
            self.known[kind[1]].append(word)
        return move

    def _place_of(self, name, word):
        """The place of the foreign thing for which a word stands, the next one for a new word."""
        if word == 0:
            return 0
        words = self.known[name]
        return words.index(word) + 1 if word in words else len(words) + 1
