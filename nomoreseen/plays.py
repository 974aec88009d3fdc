"""Plays: which moves are lawful, how a guest answers them, and how two guests are told apart."""

from collections import deque

from nomoreseen.copies import Copies, explored
from nomoreseen.errors import InvalidPlay, InvalidSize, Refused
from nomoreseen.moves import all_lawful, is_lawful
from nomoreseen.pairs import need_pair
from nomoreseen.runs import answer
from nomoreseen.spots import need_guest
from nomoreseen.states import first_state, in_move, need_secrets, need_state
from nomoreseen.values import is_sequence

MOST_PAIRS = 20000


def lawful_moves(book, module, state):
    """All lawful in-moves at this state: calls by entries, then backs, each by values."""
    need_guest(book, module)
    return all_lawful(book, module, need_state(module, state))


def answers(book, module, secrets, moves):
    """The out-moves that answer a row of lawful in-moves."""
    need_guest(book, module)
    state = first_state(module, need_secrets(module, secrets))
    told = []
    for at, move in enumerate(need_in_moves(module, moves)):
        if state is None or not is_lawful(book, module, state, move):
            raise Refused(at)
        out, state = answer(module, state, move)
        told.append(out)
    return tuple(told)


def need_in_moves(module, value):
    """A row of in-moves in tuples (any value); not whether they are lawful."""
    if not is_sequence(value):
        raise InvalidPlay(-1)
    moves = [in_move(module, move) for move in value]
    if None in moves:
        raise InvalidPlay(moves.index(None))
    return moves


def shortest_play(book, one, other, secrets, others):
    """Some shortest row of lawful in-moves, just the last one answered unlike; None if there is none."""
    told, told_others = need_pair(book, one, other, secrets, others)
    copies = Copies(book, one, other, (first_state(one, told), first_state(other, told_others)))
    # Calls within calls can lead to endlessly many states of guests that are alike all the same.
    if book.inside and _are_surely_alike(copies):
        return None
    return Search(copies).shortest()


def _are_surely_alike(copies):
    try:
        return explored(copies).parting is None
    except InvalidSize:
        return False


class Search:
    """The shortest way to a move that two copies answer unlike.

    A pair of states is told by its bases and the number of its pile; piles has for each number
    the pile beneath the newest frames, and these.
    """

    def __init__(self, copies):
        self.copies = copies
        self.piles = [None]
        self.pile_numbers = {}
        first = (copies.first(), 0)
        self.came_from = {first: None}
        self.queue = deque([first])

    def shortest(self):
        """The moves of this way, None if there is none."""
        while self.queue:
            pair = self.queue.popleft()
            bases, pile = pair
            for move in self.copies.calls_at(bases, pile > 0):
                if self._parts(pair, None, pile, move):
                    return self._way(pair) + (move,)
            if pile > 0:
                beneath, frames = self.piles[pile]
                for move in self.copies.backs_at(frames, bases):
                    if self._parts(pair, frames, beneath, move):
                        return self._way(pair) + (move,)
        return None

    def _parts(self, pair, frames, beneath, move):
        """Whether a move, into these frames, is answered unlike; else what is behind it is met."""
        word, frames_behind, bases = self.copies.outcome(pair[0], frames, move)
        if word == "back":
            self._meet((bases, beneath), pair, move)
        elif word == "call":
            self._meet((bases, self._pile((beneath, frames_behind))), pair, move)
        return word == "unlike"

    def _pile(self, told):
        if told not in self.pile_numbers:
            self.pile_numbers[told] = len(self.piles)
            self.piles.append(told)
        return self.pile_numbers[told]

    def _meet(self, met, pair, move):
        if met in self.came_from:
            return
        self.came_from[met] = (pair, move)
        self.queue.append(met)
        if len(self.came_from) > MOST_PAIRS:
            raise InvalidSize("pairs")

    def _way(self, pair):
        moves = []
        while self.came_from[pair] is not None:
            pair, move = self.came_from[pair]
            moves.append(move)
        return tuple(moves[::-1])
