"""Rooms and deeds as they are handed in: any values, looked at and told in tuples."""

from nomoreseen.compiler import frame_size
from nomoreseen.errors import InvalidRoom, InvalidScript
from nomoreseen.values import frozen, is_below, is_number, is_row, is_sequence


def need_room(code, value):
    """The room in tuples."""
    if not is_row(value, 5):
        raise InvalidRoom(-1)
    cells, things, handed, own, laid = value
    if not are_words(code, cells, len(code.module.cells)):
        raise InvalidRoom(0)
    if not are_made(code, things):
        raise InvalidRoom(1)
    if not are_handed(code, handed):
        raise InvalidRoom(2)
    if not _are_piles(code, own, laid):
        raise InvalidRoom(3)
    return frozen(value)


def are_words(code, value, many):
    """Whether this is a row of so many words."""
    return is_row(value, many) and all([is_below(word, code.book.word) for word in value])


def are_made(code, value):
    """Whether these are things of a room: (number of the class, a word)."""
    if not is_sequence(value) or len(value) > code.module.room:
        return False
    many = len(code.module.classes)
    return all([
        is_row(thing, 2) and is_below(thing[0], many) and is_below(thing[1], code.book.word) for thing in value
    ])


def are_handed(code, value):
    """Whether this is the list of a room: (number, number of the class), the numbers unlike."""
    if not is_sequence(value) or not all([_is_handed(code, told) for told in value]):
        return False
    numbers = [told[0] for told in value]
    return len({number: True for number in numbers}) == len(numbers)


def _is_handed(code, value):
    if not is_row(value, 2) or not is_below(value[0], code.book.word) or value[0] == 0:
        return False
    return is_below(value[1], len(code.module.classes))


def _are_piles(code, own, laid):
    if not is_sequence(own) or not is_sequence(laid):
        return False
    if not all([is_own_frame(code, told) for told in own]):
        return False
    bare = [told[0] for told in own if len(told) == 1]
    if len(bare) != len(laid):
        return False
    return all([are_words(code, laid[at], call_size(code, call)) for at, call in enumerate(bare)])


def is_own_frame(code, value):
    """Whether this can lie on the own pile: (call, frame), or (call,) if its frame lies open."""
    if not is_sequence(value) or not value or not is_below(value[0], len(code.behind)):
        return False
    if len(value) == 1:
        return True
    return len(value) == 2 and are_words(code, value[1], call_size(code, value[0]))


def call_size(code, call):
    """How many words the frame of the call of this number has."""
    return frame_size(code.module, code.call_rows[call][0])


def deed_of(book, module, value):
    """The value as a deed in tuples; None if it is none of this guest's code."""
    if not is_sequence(value) or len(value) < 3 or not _are_changes(book, value[-1]):
        return None
    if not is_below(value[-2], book.word):
        return None
    is_back = len(value) == 3 and value[0] == "back"
    is_call = len(value) == 4 and value[0] == "call" and _is_door(module, value[1])
    return frozen(value) if is_back or is_call else None


def _is_door(module, name):
    return isinstance(name, str) and name in module.entry_numbers


def _are_changes(book, value):
    if not is_sequence(value):
        return False
    return all([
        is_row(change, 3) and is_number(change[0]) and is_number(change[1])
        and is_below(change[2], book.word) for change in value
    ])


def need_deed(book, module, value):
    """The deed in tuples."""
    deed = deed_of(book, module, value)
    if deed is None:
        raise InvalidScript(0)
    return deed


def need_script(book, module, value):
    """The script in tuples (any value); not whether a deed stands behind a never."""
    if not is_sequence(value):
        raise InvalidScript(-1)
    deeds = [deed_of(book, module, deed) for deed in value]
    if None in deeds:
        raise InvalidScript(deeds.index(None))
    return tuple(deeds)
