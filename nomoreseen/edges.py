"""Facts: what strangers can bring about at most in the code of a guest."""

from nomoreseen.flows import but_none, one_word, put, ways, words_below, words_in, words_laid
from nomoreseen.modules import is_own
from nomoreseen.spots import need_spots


class Facts:
    """The least sets of words that variables and registers can have ahead of each row."""

    def __init__(self, book, module, guards):
        self.guards = need_spots(book, module, guards)
        self.book = book
        self.module = module
        self._held = {}
        self._laid_words = one_word(0)
        self._handed_words = [0] * len(module.classes)
        self._rest_words = [
            words_below(cell[1][1]) if cell[2] else one_word(0) for cell in module.cells
        ]
        self._grew = True
        while self._grew:
            self._grew = False
            self._begin()
            for entry, row in list(self._held):
                self._go_on(entry, row)

    def words_at(self, entry, row):
        """The words of each variable, then of R1, R2, Z, ahead of a row; None if it is not reached."""
        if (entry, row) not in self._held:
            return None
        return tuple([words_in(words) for words in self._held[(entry, row)]])

    def rest(self):
        """For each cell the words that it can have while nothing runs."""
        return tuple([words_in(words) for words in self._rest_words])

    def fields(self):
        """The words that fields can have."""
        return words_in(self._laid_words)

    def handed_out(self, own):
        """The words but 0 that go out as things of the own class of this number."""
        return words_in(self._handed_words[own])

    def is_behind(self, call):
        """Whether somebody can come behind the call of this number."""
        entry, row = self.module.calls()[call]
        return (call == 0 and self._is_idle_bare()) or self.is_reached(entry, row)

    def is_reached(self, entry, row):
        """Whether this row is reached."""
        return (entry, row) in self._held

    def leads(self, entry, row):
        """The rows of its entry that a reached row, which doesn't go out, can go on to, ascending."""
        told = ways(self.module.steps[entry][row], row, self._held[(entry, row)], self._laid_words, self.module.room)
        return tuple(sorted({target: True for target, _ in told}))

    def _is_idle_bare(self):
        return ("idle", "") not in self.guards

    def _join(self, entry, row, held):
        """What is held here can come there, too."""
        place = (entry, row)
        ahead = self._held.get(place, (0,) * len(held))
        both = tuple([words | held[at] for at, words in enumerate(ahead)])
        if both != ahead:
            self._held[place] = both
            self._grew = True

    def _begin(self):
        """Goes in at all doors."""
        module = self.module
        for at, entry in enumerate(module.entries):
            inner = (one_word(0),) * len(entry[4])
            self._join(at, 0, self._amid(tuple(self._rest_words), (self._coming(entry[0], entry[2]),) + inner))
        calls = module.calls()
        if calls and self._is_idle_bare():
            entry, row = calls[0]
            frame = (one_word(0),) * (1 + len(module.entries[entry][4]))
            self._come_behind(entry, row, tuple(self._rest_words), frame)

    def _amid(self, cells, frame):
        """What is held where R1, R2, Z are 0."""
        return cells + frame + (one_word(0),) * 3

    def _come_behind(self, entry, row, cells, frame):
        step = self.module.steps[entry][row]
        name, _, kind_back = self.module.outs[step[2]]
        held = self._amid(cells, frame)
        self._join(entry, row + 1, put(held, step[1], self._coming(name, kind_back)))

    def _coming(self, seam, kind):
        """The words that can come in at a seam."""
        word, told = kind
        if word == "num":
            is_bare = ("below", seam) not in self.guards
            return words_below(self.book.word if is_bare else told)
        if not is_own(self.module, kind) or ("given", seam) not in self.guards:
            return words_below(self.book.word)
        words = one_word(0)
        for own, handed in enumerate(self._handed_words):
            if own == self.module.own_at[told] or ("class", seam) not in self.guards:
                words = words | handed
        return words

    def _go_on(self, entry, row):
        step = self.module.steps[entry][row]
        held = self._held[(entry, row)]
        if step[0] in ("call", "back"):
            self._go_out(entry, step, held)
            if step[0] == "call":
                self._leave(entry, row, step, held)
            return
        self._put_words(words_laid(step, held, self.module.room))
        for target, behind in ways(step, row, held, self._laid_words, self.module.room):
            self._join(entry, target, behind)

    def _put_words(self, words):
        if words | self._laid_words != self._laid_words:
            self._laid_words = words | self._laid_words
            self._grew = True

    def _go_out(self, entry, step, held):
        """Cells come to rest, and what goes out is handed out."""
        rest = [words | held[at] for at, words in enumerate(self._rest_words)]
        if rest != self._rest_words:
            self._rest_words = rest
            self._grew = True
        is_call = step[0] == "call"
        kind = self.module.outs[step[2]][1] if is_call else self.module.entries[entry][3]
        if is_own(self.module, kind):
            own = self.module.own_at[kind[1]]
            words = but_none(held[step[3] if is_call else step[1]])
            if words | self._handed_words[own] != self._handed_words[own]:
                self._handed_words[own] = words | self._handed_words[own]
                self._grew = True

    def _leave(self, entry, row, step, held):
        """Somebody can come behind this call."""
        many = len(self.module.cells)
        cells, frame = held[:many], held[many:-3]
        if not all([("alone", told[0]) in self.guards for told in self.module.entries]):
            cells = tuple(self._rest_words)
        if ("frame", self.module.outs[step[2]][0]) not in self.guards:
            frame = (words_below(self.book.word),) * len(frame)
        self._come_behind(entry, row, cells, frame)
