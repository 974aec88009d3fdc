"""Handles: which places of the list are still needed, and lists that keep just these."""

from collections import deque

from nomoreseen.errors import InvalidBook, InvalidPlay, InvalidSize, LargeTable, Refused
from nomoreseen.futures import MOST_STATES, Futures, shown_places
from nomoreseen.modules import is_own
from nomoreseen.moves import all_lawful, is_lawful
from nomoreseen.plays import need_in_moves
from nomoreseen.runs import answer, kind_of_in_move
from nomoreseen.spots import need_guest
from nomoreseen.states import first_state, in_move, need_secrets
from nomoreseen.trims import trim
from nomoreseen.values import is_below


def needs(book, module, secrets, moves):
    """The ascending places of the list that are needed behind a lawful play."""
    state = _state_behind(book, module, secrets, moves)
    if state is None:
        return ()
    return Futures(book, module, state).places(trim(module, state))


def need_play(book, module, secrets, moves, place):
    """The least of the shortest rows of in-moves whose last one shows that the place is needed."""
    state = _state_behind(book, module, secrets, moves)
    if state is None or not is_below(place, len(state[2]) + 1) or place == 0:
        raise InvalidSize("place")
    first = trim(module, state)
    plays = {first: ()}
    queue = deque([first])
    while queue:
        now = queue.popleft()
        # In Python's order of moves the first play that is met is the least one.
        for move in sorted(all_lawful(book, module, now)):
            out, behind = answer(module, now, move)
            if place in shown_places(module, now, move, out):
                return plays[now] + (move,)
            if behind is None:
                continue
            met = trim(module, behind)
            if met not in plays:
                plays[met] = plays[now] + (move,)
                queue.append(met)
        if len(plays) > MOST_STATES:
            raise LargeTable(MOST_STATES)
    return None


def list_room(book, module, secrets):
    """The greatest number of places that are needed at a time."""
    futures = Futures(book, module, _first(book, module, secrets))
    return max([len(futures.places(state)) for state in futures.needed])


class LeastLists:
    """A guest whose list has the needed places alone. Changes: each deed is done."""

    def __init__(self, book, module, secrets):
        state = _first(book, module, secrets)
        self._book = book
        self._module = module
        self._futures = Futures(book, module, state)
        self._now = trim(module, state)

    def kept_places(self):
        """The places of its list."""
        return () if self._now is None else self._futures.places(self._now)

    def deed(self, move):
        """The answer to an in-move; never, if it is not lawful or brings a place that is not on the list."""
        if self._now is None:
            raise Refused(0)
        asked = in_move(self._module, move)
        if asked is None:
            raise InvalidPlay(0)
        if not self._is_let(asked):
            self._now = None
            return ("never",)
        out, behind = answer(self._module, self._now, asked)
        self._now = None if behind is None else trim(self._module, behind)
        return out

    def _is_let(self, move):
        if not is_lawful(self._book, self._module, self._now, move):
            return False
        if not is_own(self._module, kind_of_in_move(self._module, self._now, move)):
            return True
        return move[-1] == 0 or move[-1] in self.kept_places()


def _first(book, module, secrets):
    need_guest(book, module)
    if book.inside:
        raise InvalidBook("inside")
    return first_state(module, need_secrets(module, secrets))


def _state_behind(book, module, secrets, moves):
    """The state behind a row of lawful in-moves, None behind never."""
    state = _first(book, module, secrets)
    for at, move in enumerate(need_in_moves(module, moves)):
        if state is None or not is_lawful(book, module, state, move):
            raise Refused(at)
        _, state = answer(module, state, move)
    return state
