"""A guest amid strangers, and another one put in its place."""

from nomoreseen.copies import Copies
from nomoreseen.courses import Course
from nomoreseen.deeds import need_deed
from nomoreseen.errors import InvalidIndex, Refused
from nomoreseen.levels import Levels
from nomoreseen.modules import need_module
from nomoreseen.pairs import need_same_doors
from nomoreseen.runs import answer
from nomoreseen.spots import need_guest
from nomoreseen.states import first_state, frame_kinds, need_secrets, need_state
from nomoreseen.values import is_below, is_number, is_row


class Live:
    """A guest, all its spots guarded, amid strangers. Changes: deeds are done, and undone."""

    def __init__(self, book, module, secrets):
        need_guest(book, module)
        self._book = book
        self._module = module
        self._secrets = need_secrets(module, secrets)
        self._done = []
        self._course = self._course_of(())

    def deed(self, deed):
        """What is seen of a deed, behind which all stands then."""
        told = need_deed(self._book, self._module, deed)
        if self._course.room is None:
            raise Refused(0)
        self._done.append(told)
        return self._course.does(told)

    def deeds(self):
        """The script that was done."""
        return tuple(self._done)

    def play(self):
        """The lawful moves so far, in, out, in, out, .."""
        return tuple(self._course.lawful.moves)

    def state(self):
        """The plain state behind the play, None behind a never."""
        return self._course.lawful.now

    def room_behind(self):
        """The room, None behind a never."""
        return self._course.room

    def back_to(self, many):
        """Stands behind the first so many deeds again."""
        if not is_below(many, len(self._done) + 1):
            raise InvalidIndex("many")
        self._done = self._done[:many]
        self._course = self._course_of(self._done)

    def parting_moves(self, module, secrets):
        """Some lawful in-moves from here on, the last one answered unlike by another guest; None: there are none."""
        _, moves = self._compared(module, secrets)
        return moves

    def exchange(self, module, secrets):
        """Puts another guest in the place of this one."""
        told, moves = self._compared(module, secrets)
        if moves is not None:
            raise Refused(len(self._course.lawful.moves) // 2)
        self._module = module
        self._secrets = told
        self._course = self._course_of(self._done)

    def _course_of(self, deeds):
        course = Course(self._book, self._module, self._secrets)
        for deed in deeds:
            course.does(deed)
        return course

    def _compared(self, module, secrets):
        """(the secrets of another guest, some in-moves by which it parts from here on or None)."""
        need_guest(self._book, module)
        need_same_doors(self._module, module)
        told = need_secrets(module, secrets)
        if self._course.room is None:
            raise Refused(-1)
        other = _state_behind(module, told, self._course.lawful.moves)
        return (told, _parting(self._book, self._module, module, self._course.lawful.now, other))


def _state_behind(module, secrets, play):
    """The state of a guest behind a lawful play, each of whose in-moves it must answer so."""
    state = first_state(module, secrets)
    for at in range(len(play) // 2):
        out, state = answer(module, state, play[2 * at])
        if out != play[2 * at + 1]:
            raise Refused(at)
    return state


def _parting(book, one, other, state, state_other):
    """The moves by which two guests part from two states on, however many calls wait now."""
    levels = Levels(Copies(book, one, other, (state, state_other)))
    many = len(state[4])
    for at in range(many):
        frames = (state[4][at], state_other[4][at])
        levels.waits_from_first((_level(at), frames, ()), _level(at + 1))
    levels.begins(_level(many), (state[:4], state_other[:4]))
    levels.explore()
    return levels.way()


def _level(at):
    """The level at which so many of the calls that wait now are not answered yet."""
    return (at, at > 0)


def room_of(module, state, known):
    """The room of a guest's code, all spots guarded, behind a lawful play that leads to this state."""
    need_module(module)
    cells, things, handed, came, waiting = need_state(module, state)
    if not is_row(known, len(module.foreign)):
        raise InvalidIndex(-1)
    for at, words in enumerate(known):
        if not _are_unlike_words(words, came[at]):
            raise InvalidIndex(at)
    words_of = {name: (0,) + tuple(known[at]) for at, name in enumerate(module.foreign)}
    calls = module.calls()
    own = [
        (calls.index((entry, row)), _as_words(frame_kinds(module, entry), held, words_of))
        for entry, row, held in waiting
    ]
    return (
        _as_words([cell[1] for cell in module.cells], cells, words_of),
        things,
        tuple([(thing, things[thing - 1][0]) for thing in handed]),
        tuple(own),
        (),
    )


def _are_unlike_words(value, many):
    if not is_row(value, many) or not all([is_number(word) and word > 0 for word in value]):
        return False
    return len({word: True for word in value}) == many


def _as_words(kinds, held, words_of):
    """What variables of these kinds hold, foreign things as the words that came for them."""
    return tuple([
        words_of[kind[1]][held[at]] if kind[1] in words_of else held[at] for at, kind in enumerate(kinds)
    ])
