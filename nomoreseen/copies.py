"""Two guests side by side in the language: their bases, frames, and how they answer."""

from nomoreseen.levels import Levels
from nomoreseen.moves import lawful_backs, lawful_calls
from nomoreseen.runs import answer

# What was answered is kept for the next time, but no more than so much.
MOST_KNOWN = 200000


class Copies:
    """Two guests with the same doors; a base is a state without what waits."""

    def __init__(self, book, one, other, first):
        self.book = book
        self.modules = (one, other)
        self.first_pair = first
        self.known = {}

    def first(self):
        """The bases at the beginning."""
        return (self.first_pair[0][:4], self.first_pair[1][:4])

    def calls_at(self, bases, waits):
        """The lawful calls in at these bases."""
        if waits and not self.book.inside:
            return ()
        return lawful_calls(self.book, self.modules[0], bases[0] + ((),))

    def backs_at(self, frames, bases):
        """The lawful backs into these frames at these bases."""
        return lawful_backs(self.book, self.modules[0], bases[0] + ((frames[0],),))

    def asked_of(self, frames):
        """All of frames by which backs into them go."""
        return frames

    def outcome(self, bases, frames, move):
        """(word, frames, bases) behind a move."""
        out, behind = self._answer(0, bases[0], None if frames is None else frames[0], move)
        out_other, behind_other = self._answer(1, bases[1], None if frames is None else frames[1], move)
        if out != out_other:
            return ("unlike", None, None)
        if behind is None:
            return ("never", None, None)
        behind_bases = (behind[:4], behind_other[:4])
        if out[0] == "back":
            return ("back", None, behind_bases)
        return ("call", (behind[4][0], behind_other[4][0]), behind_bases)

    def _answer(self, which, base, frame, move):
        key = (which, base, frame, move)
        if key not in self.known:
            if len(self.known) >= MOST_KNOWN:
                self.known = {}
            waiting = () if frame is None else (frame,)
            self.known[key] = answer(self.modules[which], base + (waiting,), move)
        return self.known[key]


def explored(copies):
    """All that comes of two copies from the beginning on."""
    levels = Levels(copies)
    bases = copies.first()
    levels.begins((bases, False), bases)
    levels.explore()
    return levels
