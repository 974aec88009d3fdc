"""Which places of the list some lawful play can still ask for; of books in which nothing calls inside."""

from collections import deque

from nomoreseen.errors import LargeTable
from nomoreseen.modules import is_own
from nomoreseen.moves import all_lawful
from nomoreseen.runs import answer, kind_of_in_move
from nomoreseen.trims import trim

MOST_STATES = 3000


def shown_places(module, state, move, out):
    """The places of the list at this state that a move and its answer show to be needed."""
    if out[0] == "never":
        return []
    shown = []
    if is_own(module, kind_of_in_move(module, state, move)):
        shown.append(move[-1])
    if is_own(module, _kind_out(module, state, move, out)):
        shown.append(out[-1])
    return [place for place in shown if 0 < place <= len(state[2])]


def _kind_out(module, state, move, out):
    """The kind of what an out-move brings."""
    if out[0] == "call":
        return module.outs[module.out_numbers[out[1]]][1]
    # Nothing calls inside: what answers is the entry of the call, or of the one call that waits.
    entry = module.entry_numbers[move[1]] if move[0] == "call" else state[4][-1][0]
    return module.entries[entry][3]


class Futures:
    """All trimmed states that come from one on, and the places needed at each of them."""

    def __init__(self, book, module, state):
        self.book = book
        self.module = module
        self.needed = {}
        self.came_from = {}
        first = trim(module, state)
        self._meet(first)
        queue = deque([first])
        while queue:
            now = queue.popleft()
            for move in all_lawful(book, module, now):
                out, behind = answer(module, now, move)
                for place in shown_places(module, now, move, out):
                    self.needed[now][place] = True
                if behind is None:
                    continue
                met = trim(module, behind)
                if met not in self.needed:
                    self._meet(met)
                    queue.append(met)
                self.came_from[met][now] = True
        self._spread()

    def places(self, state):
        """The ascending places that are needed at a trimmed state."""
        return tuple(sorted(self.needed[state]))

    def _meet(self, state):
        self.needed[state] = {}
        self.came_from[state] = {}
        if len(self.needed) > MOST_STATES:
            raise LargeTable(MOST_STATES)

    def _spread(self):
        """What is needed later is needed now, if it is on the list already."""
        todo = deque([(state, place) for state in self.needed for place in self.needed[state]])
        while todo:
            state, place = todo.popleft()
            for ahead in self.came_from[state]:
                if place <= len(ahead[2]) and place not in self.needed[ahead]:
                    self.needed[ahead][place] = True
                    todo.append((ahead, place))
