"""A clock beside a guest with all guards: the ticks of its out-moves, and the least padding that hides them."""

from collections import deque

from nomoreseen.errors import InvalidBook, InvalidSize, Refused
from nomoreseen.leaks import alike_classes, are_alike
from nomoreseen.moves import all_lawful, is_lawful
from nomoreseen.plays import need_in_moves
from nomoreseen.spots import need_guest
from nomoreseen.states import first_state, need_secrets
from nomoreseen.tickings import Ticking
from nomoreseen.trims import trim

MOST_VECTORS = 3000


def ticks_along(book, module, secrets, moves):
    """The ticks of each out-move along lawful moves; none for a never."""
    told, asked = _need_play(book, module, secrets, moves)
    _, ticks = _ticked(book, module, told, asked)
    return tuple(ticks)


def padding(book, module, secrets, moves, so_far=False):
    """The ticks that the least padding adds at each out-move."""
    told, asked = _need_play(book, module, secrets, moves)
    outs, ticks = _ticked(book, module, told, asked)
    greatest = list(ticks)
    for others in module.all_secrets():
        if not so_far and not are_alike(book, module, told, others):
            continue
        outs_others, ticks_others = _ticked_alike(book, module, others, asked, outs)
        for at in range(min(len(outs_others), len(greatest))):
            greatest[at] = max(greatest[at], ticks_others[at])
    return tuple([greatest[at] - ticks[at] for at in range(len(ticks))])


def most_padding(book, module, so_far=False):
    """(the greatest number ever added at an out-move, some (secrets, moves) by whose last move it is)."""
    need_guest(book, module)
    if book.inside:
        raise InvalidBook("inside")
    lots = (module.all_secrets(),) if so_far else alike_classes(book, module)
    search = Search(book, module, so_far)
    for lot in lots:
        search.begins(lot)
    search.explore()
    return (search.most, search.shown)


def _need_play(book, module, secrets, moves):
    need_guest(book, module)
    told = need_secrets(module, secrets)
    asked = need_in_moves(module, moves)
    state = first_state(module, told)
    ticking = Ticking(book, module)
    for at, move in enumerate(asked):
        if state is None or not is_lawful(book, module, state, move):
            raise Refused(at)
        _, _, state = ticking.answered_in(state, move)
    return (told, asked)


def _ticked(book, module, secrets, moves):
    """(out-moves, their ticks) of lawful moves up to a never, of which no ticks are told."""
    return _ticked_alike(book, module, secrets, moves, None)


def _ticked_alike(book, module, secrets, moves, wanted):
    """(out-moves, their ticks) up to a never, or to the first out-move that is none of those wanted."""
    ticking = Ticking(book, module)
    state = first_state(module, secrets)
    outs, ticks = [], []
    for at, move in enumerate(moves):
        out, many, state = ticking.answered_in(state, move)
        if state is None or (wanted is not None and (at >= len(wanted) or out != wanted[at])):
            break
        outs.append(out)
        ticks.append(many)
    return (outs, ticks)


class Search:
    """All rows of trimmed states, one for each secret of a lot, that come along lawful moves.

    Secrets at one state go on alike, so that a row has each state once, beside one secret that came there.
    """

    def __init__(self, book, module, so_far):
        self.book = book
        self.module = module
        self.so_far = so_far
        self.ticking = Ticking(book, module)
        self.met = {}
        self.queue = deque()
        self.most = 0
        self.shown = None

    def begins(self, lot):
        """The row of the states of these secrets at first is met."""
        self._meet({first_state(self.module, secrets): secrets for secrets in lot[::-1]}, ())

    def explore(self):
        """Looks at all rows that come."""
        while self.queue:
            states, moves = self.queue.popleft()
            for move in all_lawful(self.book, self.module, list(states)[0]):
                self._goes(states, moves + (move,))

    def _goes(self, states, moves):
        """All states of a row do a move; those behind unlike answers go on apart."""
        groups = {}
        for state in states:
            out, many, behind = self.ticking.answered_in(state, moves[-1])
            if behind is not None:
                groups.setdefault(out, []).append((many, trim(self.module, behind), states[state]))
        for out in groups:
            self._look(groups[out], moves)
            self._meet({behind: secrets for _, behind, secrets in groups[out]}, moves)

    def _look(self, group, moves):
        """Whether more is added here than anywhere ahead."""
        greatest = max([many for many, _, _ in group])
        least, secrets = min([(many, secrets) for many, _, secrets in group])
        if greatest - least > self.most:
            self.most = greatest - least
            self.shown = (secrets, moves)

    def _meet(self, states, moves):
        if not states:
            return
        row = tuple(sorted(states))
        if row in self.met:
            return
        self.met[row] = True
        self.queue.append((states, moves))
        if len(self.met) > MOST_VECTORS:
            raise InvalidSize("vectors")
