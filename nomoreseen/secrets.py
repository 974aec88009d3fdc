"""Secrets: classes of them, least lots of spots that leak if they are bare, and least lots of guards."""

from nomoreseen.calm import calm_holds
from nomoreseen.compiler import Code
from nomoreseen.crossings import are_crossings
from nomoreseen.deeds import deed_of
from nomoreseen.errors import InvalidSecrets, InvalidSize
from nomoreseen.leaks import Lots, alike_classes, are_alike, is_within, side_by_side
from nomoreseen.spots import need_guest, need_spots, spots
from nomoreseen.states import need_secrets
from nomoreseen.values import is_tuple, tuples_throughout
from nomoreseen.watch import parts_at_last

MOST_SPOTS = 8


def classes(book, module):
    """The classes of secrets that nobody can part in the language."""
    need_guest(book, module)
    return alike_classes(book, module)


def is_enough(book, module, guarded):
    """Whether guards at these spots alone let no stranger part two secrets of a class."""
    lot = need_spots(book, module, guarded)
    lots = Lots(book, module)
    leak, _ = lots.looked_at(tuple([at for at, spot in enumerate(lots.spots) if spot not in lot]))
    return leak is None


def least_leaks(book, module):
    """(bare lot, some leak) of all least bare lots that leak."""
    lots = _all_lots(book, module)
    return tuple([(_spots_at(lots.spots, bare), lots.leaks[bare]) for bare in sorted(lots.leaks)])


def least_guards(book, module):
    """(lot, papers) of all least lots of guarded spots that are enough."""
    lots = _all_lots(book, module)
    return tuple([(_spots_at(lots.spots, lot), lots.papers[lot]) for lot in sorted(lots.papers)])


def leaks_hold(book, module, value):
    """Whether these are bare lots with right leaks, none within another one (any value)."""
    every = _few_spots(book, module)
    if not _are_lots(every, value):
        return False
    return all([_is_leak(book, module, lot, leak) for lot, leak in value])


def guards_hold(book, module, value):
    """Whether these are lots with right papers, none within another one (any value)."""
    every = _few_spots(book, module)
    if not _are_lots(every, value):
        return False
    pairs = side_by_side(alike_classes(book, module)) if value else []
    return all([_are_papers(book, module, pairs, lot, papers) for lot, papers in value])


def both_hold(book, module, leaks, guards):
    """Whether both hold, and the lots are each other's crossings (any values)."""
    every = _few_spots(book, module)
    if not leaks_hold(book, module, leaks) or not guards_hold(book, module, guards):
        return False
    return are_crossings(len(every), _numbers_of(every, leaks), _numbers_of(every, guards))


def _few_spots(book, module):
    every = spots(book, module)
    if len(every) > MOST_SPOTS:
        raise InvalidSize("spots")
    return every


def _all_lots(book, module):
    _few_spots(book, module)
    lots = Lots(book, module)
    lots.look_at_all()
    return lots


def _spots_at(every, numbers):
    return tuple([every[at] for at in numbers])


def _numbers_of(every, value):
    """The lots of a value that holds, by numbers of their spots."""
    return tuple([tuple([every.index(spot) for spot in lot]) for lot, _ in value])


def _are_lots(every, value):
    """Whether this is a tuple of pairs that begin with lots, ascending, none within another one (any value)."""
    if not tuples_throughout(value) or not all([is_tuple(pair, 2) and _is_lot(every, pair[0]) for pair in value]):
        return False
    numbers = _numbers_of(every, value)
    for at, lot in enumerate(numbers):
        if at > 0 and numbers[at - 1] >= lot:
            return False
        if any([other != lot and is_within(other, lot) for other in numbers]):
            return False
    return True


def _is_lot(every, value):
    """Whether these are unlike spots, in their order (any value without lists)."""
    if not isinstance(value, tuple) or not all([spot in every for spot in value]):
        return False
    numbers = [every.index(spot) for spot in value]
    return all([at == 0 or numbers[at - 1] < number for at, number in enumerate(numbers)])


def _is_leak(book, module, lot, value):
    """Whether this is a leak of a bare lot (any value without lists)."""
    if not is_tuple(value, 3) or not _are_secrets(module, value[0]) or not _are_secrets(module, value[1]):
        return False
    secrets, others, script = value
    if secrets >= others or not isinstance(script, tuple):
        return False
    if None in [deed_of(book, module, deed) for deed in script]:
        return False
    code = Code(book, module, [spot for spot in spots(book, module) if spot not in lot])
    return parts_at_last((code, code), (secrets, others), script) and are_alike(book, module, secrets, others)


def _are_secrets(module, value):
    try:
        need_secrets(module, value)
    except InvalidSecrets:
        return False
    return True


def _are_papers(book, module, pairs, lot, value):
    """Whether these are papers of these pairs of secrets, in their order, if just this lot is guarded."""
    if not is_tuple(value, len(pairs)):
        return False
    bare = [spot for spot in spots(book, module) if spot not in lot]
    return all([
        calm_holds(book, module, bare, pair[0], pair[1], value[at]) for at, pair in enumerate(pairs)
    ])
