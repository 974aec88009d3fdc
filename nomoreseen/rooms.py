"""Two secrets of one guest side by side on the machine: their bases, frames, and what is seen of them."""

from nomoreseen.ticks import done

WAITS = ((0, ()),)
# What was seen is kept for the next time, but no more than so much.
MOST_KNOWN = 200000


class Rooms:
    """Two rooms of one code; a base is what a room holds but its piles.

    A frame is (what a call lays on the own pile, the frame that it lays open or ()).
    A move is ("call", entry, word, whether something waits), or ("back", word, the words found in an open frame).
    known is what was seen of this code already, if it was looked at before.
    """

    def __init__(self, code, cells, other_cells, known=None):
        self.code = code
        self.first_pair = ((cells, (), ()), (other_cells, (), ()))
        self.known = {} if known is None else known
        words = range(code.book.word)
        names = [entry[0] for entry in code.module.entries]
        self.calls_amid = [("call", name, word, True) for name in names for word in words]
        self.calls_alone = [("call", name, word, False) for name in names for word in words]
        self.calls_alone.extend([("back", word, ()) for word in words])

    def first(self):
        """The bases at the beginning."""
        return self.first_pair

    def calls_at(self, bases, waits):
        """All calls, and, while nothing waits, all backs."""
        return self.calls_amid if waits else self.calls_alone

    def backs_at(self, frames, bases):
        """All backs into these frames: with each row of words that an open one can be made to have."""
        words = range(self.code.book.word)
        rows = [()]
        for _ in frames[0][1]:
            rows = [row + (word,) for row in rows for word in words]
        return [("back", word, row) for word in words for row in rows]

    def asked_of(self, frames):
        """All of frames by which backs into them go: what was laid open is put there anew."""
        return (frames[0][0], frames[1][0])

    def outcome(self, bases, frames, move):
        """(word, frames, bases) behind a move."""
        sight, behind = self._entered(bases[0], None if frames is None else frames[0], move)
        sight_other, behind_other = self._entered(bases[1], None if frames is None else frames[1], move)
        if sight != sight_other:
            return ("unlike", None, None)
        if behind is None:
            return ("never", None, None)
        behind_bases = (behind[:3], behind_other[:3])
        if sight[0][0] == "back":
            return ("back", None, behind_bases)
        return ("call", (_frame_behind(behind), _frame_behind(behind_other)), behind_bases)

    def _entered(self, base, frame, move):
        """(sight, room behind) of a move, with nothing on the piles but what it asks for."""
        if move[0] == "call":
            own, laid, deed = WAITS if move[3] else (), (), move[:3] + ((),)
        else:
            own = () if frame is None else (frame[0],)
            laid, deed = (move[2],) if move[2] else (), move[:2] + ((),)
        key = (base, own, laid, deed)
        if key not in self.known:
            if len(self.known) >= MOST_KNOWN:
                self.known.clear()
            sight, _, behind = done(self.code, base + (own, laid), deed)
            self.known[key] = (sight, behind)
        return self.known[key]


def _frame_behind(room):
    """The frame of the newest call of a room."""
    own, laid = room[3], room[4]
    return (own[-1], laid[-1] if len(own[-1]) == 1 else ())
