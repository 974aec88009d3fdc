"""What strangers see: the sights of scripts, scripts that part two codes, and what is due to be seen."""

from nomoreseen.compiler import need_code
from nomoreseen.courses import Lawful
from nomoreseen.deeds import need_script
from nomoreseen.errors import InvalidSize, Refused
from nomoreseen.pairs import need_same_doors, secrets_of
from nomoreseen.spots import need_guest
from nomoreseen.states import need_secrets
from nomoreseen.ticks import done, room_at_first
from nomoreseen.values import is_below
from nomoreseen.watch import seen_along

MOST_ROOMS = 4000
MOST_DEEDS = 6


def sights(code, secrets, script):
    """The sights of the deeds of a script."""
    need_code(code)
    told = need_secrets(code.module, secrets)
    return seen_along(code, told, need_script(code.book, code.module, script))


def due_sights(book, module, secrets, script):
    """What the lawful play alone tells of the deeds of a script."""
    told, _ = _followed(book, module, secrets, script)
    return told


def play_of(book, module, secrets, script):
    """The lawful in-moves that the deeds of a script are."""
    _, moves = _followed(book, module, secrets, script)
    return moves[::2]


def _followed(book, module, secrets, script):
    """(due sights, lawful play in, out, in, out, ..) of a script."""
    need_guest(book, module)
    lawful = Lawful(book, module, need_secrets(module, secrets))
    told = []
    for at, deed in enumerate(need_script(book, module, script)):
        if lawful.now is None:
            raise Refused(at)
        told.append(lawful.due_sight(deed))
    return (tuple(told), tuple(lawful.moves))


def parting_script(one, other, secrets, others, most):
    """Some script of the fewest deeds, at most so many, just its last sights unlike; None if there is none."""
    need_codes(one, other)
    told = secrets_of(one.module, secrets, 0)
    told_others = secrets_of(other.module, others, 1)
    if not is_below(most, MOST_DEEDS + 1):
        raise InvalidSize("most")
    search = Search(one, other)
    return search.shortest((room_at_first(one, told), room_at_first(other, told_others)), most)


def need_codes(one, other):
    """Raises the error of what are no two codes of one book, of guests with the same doors."""
    need_code(one)
    need_code(other)
    if one.book.told != other.book.told:
        raise InvalidSize("books")
    need_same_doors(one.module, other.module)


class Search:
    """Pairs of rooms of two codes, deed by deed."""

    def __init__(self, one, other):
        self.one = one
        self.other = other
        self.words = list(range(one.book.word))
        self.came_from = {}

    def shortest(self, first, most):
        """The deeds to sights that are unlike; None if so many do not lead there."""
        self.came_from = {first: None}
        layer = [first]
        for many in range(most):
            behind = []
            for pair in layer:
                for deed in self._deeds_at(pair[0]):
                    sight, _, room = done(self.one, pair[0], deed)
                    sight_other, _, room_other = done(self.other, pair[1], deed)
                    if sight != sight_other:
                        return self._way(pair) + (deed,)
                    # What is behind the last deed is not looked at any more.
                    if room is not None and many + 1 < most:
                        self._meet((room, room_other), pair, deed, behind)
            layer = behind
        return None

    def _deeds_at(self, room):
        """All deeds, each way to change the newest open frame at a back into it, too.

        As long as both codes are seen alike the frames of both lie open alike.
        """
        deeds = []
        for entry in self.one.module.entries:
            deeds.extend([("call", entry[0], word, ()) for word in self.words])
        changes = [()]
        if room[3] and len(room[3][-1]) == 1:
            changes = self._changes(len(room[4]) - 1, room[4][-1])
        for word in self.words:
            deeds.extend([("back", word, told) for told in changes])
        return deeds

    def _changes(self, frame, held):
        """Changes to each row of words that a frame can be made to hold."""
        told = [()]
        for place, now in enumerate(held):
            told = [
                ahead if word == now else ahead + ((frame, place, word),) for ahead in told for word in self.words
            ]
        return told

    def _meet(self, met, pair, deed, behind):
        if met in self.came_from:
            return
        self.came_from[met] = (pair, deed)
        behind.append(met)
        if len(self.came_from) > MOST_ROOMS:
            raise InvalidSize("rooms")

    def _way(self, pair):
        deeds = []
        while self.came_from[pair] is not None:
            pair, deed = self.came_from[pair]
            deeds.append(deed)
        return tuple(deeds[::-1])
