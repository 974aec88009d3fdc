"""Lots of numbers, and the least lots that share a number with each of them.

A lot is told here as a mask, too: the sum of 1 << k for its numbers k.
"""

from nomoreseen.errors import InvalidLots, InvalidSize
from nomoreseen.values import is_below, is_sequence


def least_ones(many, lots):
    """Those of the lots that have no other one within them."""
    masks = _need_masks(many, lots)
    over = _lies_within(many, masks)
    return _lots_of(many, [mask for mask in masks if not _any_without(many, over, mask)])


def crossings(many, lots):
    """All least lots that share a number with each of these lots."""
    masks = _need_masks(many, lots)
    whole = (1 << many) - 1
    return _lots_of(many, [whole - mask for mask in _free_masks(many, masks)])


def free_lots(many, lots):
    """All greatest lots within which none of these lots lies."""
    return _lots_of(many, _free_masks(many, _need_masks(many, lots)))


def are_crossings(many, one, other):
    """Whether two values are ascending tuples of lots, each the crossings of the other one."""
    _need_many(many)
    if not _are_lots(many, one) or not _are_lots(many, other):
        return False
    return crossings(many, one) == other and crossings(many, other) == one


def _need_many(many):
    if not is_below(many, 13):
        raise InvalidSize("many")


def _need_masks(many, lots):
    _need_many(many)
    if not is_sequence(lots):
        raise InvalidLots(-1)
    for at, lot in enumerate(lots):
        if not _is_lot(many, lot):
            raise InvalidLots(at)
    return [sum([1 << number for number in lot]) for lot in lots]


def _is_lot(many, value):
    if not is_sequence(value):
        return False
    ahead = -1
    for number in value:
        if not is_below(number, many) or number <= ahead:
            return False
        ahead = number
    return True


def _are_lots(many, value):
    if not isinstance(value, tuple):
        return False
    return all([isinstance(lot, tuple) and _is_lot(many, lot) for lot in value])


def _lies_within(many, masks):
    """For each mask, whether one of these masks lies within it."""
    over = [False] * (1 << many)
    for mask in masks:
        over[mask] = True
    for bit in range(many):
        for mask in range(1 << many):
            if mask >> bit & 1 and over[mask - (1 << bit)]:
                over[mask] = True
    return over


def _any_without(many, over, mask):
    """Whether something lies within the mask even when one of its numbers is taken out."""
    for bit in range(many):
        if mask >> bit & 1 and over[mask - (1 << bit)]:
            return True
    return False


def _free_masks(many, masks):
    """All greatest masks within which none of these lies."""
    over = _lies_within(many, masks)
    return [mask for mask in range(1 << many) if not over[mask] and _is_full(many, over, mask)]


def _is_full(many, over, mask):
    for bit in range(many):
        if not mask >> bit & 1 and not over[mask + (1 << bit)]:
            return False
    return True


def _lots_of(many, masks):
    """The ascending tuple of the lots that these masks tell, each once."""
    told = {mask: True for mask in masks}
    lots = [tuple([bit for bit in range(many) if mask >> bit & 1]) for mask in told]
    return tuple(sorted(lots))
