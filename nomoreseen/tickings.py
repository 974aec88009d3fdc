"""How long the machine ticks at lawful moves into a guest with all its guards."""

from nomoreseen.compiler import Code
from nomoreseen.runs import went_through
from nomoreseen.spots import spots

# What was ticked is kept for the next time, but no more than so much.
MOST_KNOWN = 100000


class Ticking:
    """A guest with all its guards. At a lawful move no guard stops, and the blocks of its rows are run whole."""

    def __init__(self, book, module):
        self.module = module
        self.code = Code(book, module, spots(book, module))
        self.known = {}

    def answered_in(self, state, move):
        """(out-move, ticks, state behind it) of a lawful move; 0 ticks and None for never."""
        key = (state, move)
        if key not in self.known:
            if len(self.known) >= MOST_KNOWN:
                self.known.clear()
            self.known[key] = self._answered(state, move)
        return self.known[key]

    def _answered(self, state, move):
        rows, out, behind = went_through(self.module, state, move)
        if behind is None:
            return (out, 0, None)
        many = len(self._door_rows(state, move))
        for entry, row in rows:
            many += len(self.code.blocks[entry][row])
        return (out, many, behind)

    def _door_rows(self, state, move):
        """The rows ahead of those of the guest."""
        if move[0] == "call":
            return self.code.doors[self.module.entry_numbers[move[1]]]
        entry, row, _ = state[4][-1]
        return self.code.resume + self.code.behind[self.code.call_numbers[(entry, row)]]
