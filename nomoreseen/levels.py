"""Two copies side by side, level by level: all opens and waits that come, or a way to what is answered unlike.

What is asked of the copies:
first() is the pair of bases at the beginning;
calls_at(bases, waits) are the moves that come in at a level, backs_at(frames, bases) those into a wait;
asked_of(frames) is all of frames by which backs into them go;
outcome(bases, frames, move) is (word, frames, bases) behind a move (into these frames, if it is not None):
the word is "unlike", "never", "back" or "call".
"""

from collections import deque

from nomoreseen.errors import InvalidSize

MOST_OPENS = 4000
# What came of moves is kept for the next time, but no more than so much.
MOST_KNOWN = 100000


class Outcomes:
    """What comes of all moves at bases: each outcome once, with the first move of which it comes.

    Behind an unlike one nothing more is looked at.
    """

    def __init__(self, copies):
        self.copies = copies
        self.known = {}
        self.many = 0

    def of_calls(self, bases, waits):
        """(outcome, move) of moves that come in at a level."""
        key = (bases, waits)
        if key not in self.known:
            self._keep(key, self.copies.calls_at(bases, waits), bases, None)
        return self.known[key]

    def of_backs(self, frames, bases):
        """(outcome, move) of moves into frames."""
        key = (bases, self.copies.asked_of(frames))
        if key not in self.known:
            self._keep(key, self.copies.backs_at(frames, bases), bases, frames)
        return self.known[key]

    def _keep(self, key, moves, bases, frames):
        met = {}
        for move in moves:
            outcome = self.copies.outcome(bases, frames, move)
            if outcome not in met:
                met[outcome] = move
            if outcome[0] == "unlike":
                break
        if self.many > MOST_KNOWN:
            self.known.clear()
            self.many = 0
        self.many += len(met)
        self.known[key] = list(met.items())


class Levels:
    """What comes of two copies.

    opens and waits have for each one the ways on which it comes from the beginning of its level: a row of
    ("here", an open), ("wait", a wait) and ("move", a move). parting is such a row from the beginning of all
    to a last move that is answered unlike, None if there is none.
    """

    def __init__(self, copies):
        self.copies = copies
        self.outcomes = Outcomes(copies)
        self.opens = {}
        self.waits = {}
        self.above = {}
        self.begun_by = {}
        self.looked_opens = {}
        self.looked_waits = {}
        self.asked = {}
        self.todo = deque()
        self.parting = None

    def begins(self, level, bases):
        """The level is there from the beginning on, with these bases."""
        self.begun_by[level] = None
        self._comes_open((level, bases), ())

    def waits_from_first(self, wait, above):
        """The wait is there from the beginning on, the level above it likewise."""
        self.begun_by.setdefault(wait[0], None)
        self.waits[wait] = ()
        self.above[wait] = above
        self.todo.append(("wait", wait))

    def explore(self):
        """Looks at all that comes, up to the first move that is answered unlike."""
        while self.todo and self.parting is None:
            word, thing = self.todo.popleft()
            if word == "here":
                self._look_at_open(thing)
            else:
                self._look_at_wait(thing)

    def way(self):
        """The moves to what is answered unlike, None if there is nothing such."""
        if self.parting is None:
            return None
        moves = []
        todo = list(self.parting[::-1])
        while todo:
            word, thing = todo.pop()
            if word == "move":
                moves.append(thing)
            else:
                parts = self.opens[thing] if word == "here" else self.waits[thing]
                todo.extend(parts[::-1])
        return tuple(moves)

    def _look_at_open(self, told):
        level, bases = told
        self.looked_opens.setdefault(level, []).append(told)
        for outcome, move in self.outcomes.of_calls(bases, level[1]):
            self._goes(level, outcome, (("here", told), ("move", move)))
        for wait in self.looked_waits.get(level, []):
            self._come_back(wait, told)

    def _look_at_wait(self, wait):
        above = self.above[wait]
        asked = (wait[0], self.copies.asked_of(wait[1]), above)
        if asked in self.asked:
            return
        self.asked[asked] = True
        self.looked_waits.setdefault(above, []).append(wait)
        for told in self.looked_opens.get(above, []):
            self._come_back(wait, told)

    def _come_back(self, wait, told):
        """All backs into a wait at an open of the level above it."""
        for outcome, move in self.outcomes.of_backs(wait[1], told[1]):
            self._goes(wait[0], outcome, (("wait", wait), ("here", told), ("move", move)))

    def _goes(self, level, outcome, parts):
        if self.parting is not None:
            return
        word, frames_behind, behind = outcome
        if word == "unlike":
            self.parting = self._from_beginning(level) + parts
        elif word == "back":
            self._comes_open((level, behind), parts)
        elif word == "call":
            self._comes_wait((level, frames_behind, behind), parts)

    def _from_beginning(self, level):
        """The waits from the beginning of all to the beginning of a level."""
        parts = []
        wait = self.begun_by[level]
        while wait is not None:
            parts.append(("wait", wait))
            wait = self.begun_by[wait[0]]
        return tuple(parts[::-1])

    def _comes_open(self, told, parts):
        if told not in self.opens:
            self.opens[told] = parts
            self._queue("here", told)

    def _comes_wait(self, wait, parts):
        if wait in self.waits:
            return
        self.waits[wait] = parts
        level = (wait[2], True)
        self.above[wait] = level
        self.begun_by.setdefault(level, wait)
        self._comes_open((level, wait[2]), ())
        self._queue("wait", wait)

    def _queue(self, word, thing):
        self.todo.append((word, thing))
        if len(self.opens) + len(self.waits) > MOST_OPENS:
            raise InvalidSize("opens")


def is_closed(copies, opens, waits):
    """Whether from these opens and waits, the first one among them, just these come and nothing is unlike."""
    first = copies.first()
    known_opens = {told: True for told in opens}
    known_waits = {told: True for told in waits}
    outcomes = Outcomes(copies)
    if ((first, False), first) not in known_opens:
        return False
    later = {}
    for level, bases in known_opens:
        later.setdefault(level, []).append(bases)
        for outcome, _ in outcomes.of_calls(bases, level[1]):
            if not _is_led(outcome, level, known_opens, known_waits):
                return False
    asked = {}
    for level, frames, begun in known_waits:
        above = (begun, True)
        if (above, begun) not in known_opens:
            return False
        # What backs into these frames come to was looked at if others go by the same.
        told = (level, copies.asked_of(frames), begun)
        if told in asked:
            continue
        asked[told] = True
        for bases in later[above]:
            for outcome, _ in outcomes.of_backs(frames, bases):
                if not _is_led(outcome, level, known_opens, known_waits):
                    return False
    return True


def _is_led(outcome, level, opens, waits):
    word, frames, bases = outcome
    if word == "back":
        return (level, bases) in opens
    if word == "call":
        return (level, frames, bases) in waits
    return word == "never"
