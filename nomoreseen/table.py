"""The table of tricks: which lots of guards are quiet, and what shows that others are not."""

from nomoreseen.alikes import alike_guests
from nomoreseen.books import fits
from nomoreseen.compiler import Code
from nomoreseen.deeds import deed_of
from nomoreseen.errors import InvalidModule, InvalidSize
from nomoreseen.modules import Module, need_book
from nomoreseen.pairs import need_same_doors
from nomoreseen.piles import alike_paper
from nomoreseen.spots import TRICKS, bites, need_tricks, spots_of
from nomoreseen.values import is_sequence, is_tuple, tuples_throughout
from nomoreseen.watch import first_unlike, parts_at_last

MOST_ROWS = 8


def quiet(book, tricks):
    """(True, ()) if code with the guards of these tricks is quiet, else (False, what shows that it is not)."""
    lacking = _lacking(book, tricks)
    if not lacking:
        return (True, ())
    one, other, script = alike_guests(book, lacking[0])
    codes = _codes(book, one, other, tricks)
    many = first_unlike(codes, ((), ()), script) + 1
    return (False, (lacking[0], one, other, script[:many]))


def need_holds(book, tricks, value):
    """Whether this (any value) shows that a trick that bites is lacking among these."""
    lacking = _lacking(book, tricks)
    if not is_tuple(value, 4) or not isinstance(value[0], str) or value[0] not in lacking:
        return False
    _, one, other, script = value
    if not _is_small_guest(book, one) or not _is_small_guest(book, other) or not _have_same_doors(one, other):
        return False
    if not tuples_throughout(script) or None in [deed_of(book, one, deed) for deed in script]:
        return False
    if not parts_at_last(_codes(book, one, other, tricks), ((), ()), script):
        return False
    return alike_paper(book, one, other, (), ()) is not None


def least_quiet(books):
    """The least lot of tricks that is quiet for all of these books."""
    if not is_sequence(books) or not books:
        raise InvalidSize("books")
    biting = [bites(book) for book in books]
    return tuple([trick for trick in TRICKS if any([trick in told for told in biting])])


def _lacking(book, tricks):
    """The tricks that bite in this book and are not among these."""
    biting = bites(book)
    need_tricks(tricks)
    return [trick for trick in biting if trick not in tricks]


def _codes(book, one, other, tricks):
    return [Code(book, module, spots_of(book, module, tricks)) for module in (one, other)]


def _is_small_guest(book, value):
    """Whether this is a guest (any value) without secret cells, and with few rows."""
    if not isinstance(value, Module) or fits(book, value) is not None or value.secret_cells():
        return False
    return sum([len(steps) for steps in value.steps]) <= MOST_ROWS


def _have_same_doors(one, other):
    try:
        need_same_doors(one, other)
    except InvalidModule:
        return False
    return True
