"""Rows moved and guards spared: what strangers see stays the same."""

from nomoreseen.edges import Facts
from nomoreseen.errors import InvalidSize, NoName
from nomoreseen.modules import need_book
from nomoreseen.pairings import EDGE_TRICKS, edge_guest
from nomoreseen.seen import Seen
from nomoreseen.spots import bites, need_spots, spots
from nomoreseen.thinner import followed, idle_gone, lot_left, plainer, struck, with_rows

EDGES = ("alone", "below", "class", "frame", "given", "idle", "wipe")


def spare_round(book, module, guards):
    """(module, guards) behind one round of sparing."""
    lot = need_spots(book, module, guards)
    module = with_rows(module, plainer(Seen(Facts(book, module, lot))))
    module = with_rows(module, idle_gone(Seen(Facts(book, module, lot))))
    module = with_rows(module, followed(module))
    module = with_rows(module, struck(Facts(book, module, lot)))
    every = spots(book, module)
    lot = tuple([spot for spot in lot if spot in every])
    return (module, lot_left(Facts(book, module, lot)))


def spared(book, module, guards):
    """(module, guards) behind rounds of sparing until nothing changes."""
    lot = need_spots(book, module, guards)
    while True:
        behind, lot_behind = spare_round(book, module, lot)
        if behind.told == module.told and lot_behind == lot:
            return (module, lot)
        module, lot = behind, lot_behind


def careless(book, module, guards, kind):
    """What is spared if all spots of this kind are taken to be guarded."""
    lot = need_spots(book, module, guards)
    _need_kind(kind)
    more = [spot for spot in spots(book, module) if spot[0] == kind or spot in lot]
    behind, lot_behind = spared(book, module, more)
    return (behind, tuple([spot for spot in lot_behind if spot in lot]))


def edge_pair(book, kind):
    """Some (module, lot, script) that is seen otherwise when it is spared carelessly."""
    need_book(book)
    _need_kind(kind)
    if EDGE_TRICKS[kind] not in bites(book):
        raise InvalidSize("kind")
    module, script = edge_guest(book, kind)
    return (module, tuple([spot for spot in spots(book, module) if spot[0] != kind]), script)


def _need_kind(kind):
    if kind not in EDGES:
        raise NoName(kind)
