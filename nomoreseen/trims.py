"""States with their things renumbered; nothing is looked at again here."""

from nomoreseen.modules import is_own
from nomoreseen.states import frame_kinds


def trim(module, state):
    """The state with its things renumbered as one first comes to them."""
    cells, things, handed, came, waiting = state
    kinds = [cell[1] for cell in module.cells]
    met = list(handed) + _things_held(module, kinds, cells)
    for entry, _, held in waiting:
        met.extend(_things_held(module, frame_kinds(module, entry), held))
    order = list({thing: True for thing in met})
    numbers = {thing: at + 1 for at, thing in enumerate(order)}
    numbers[0] = 0
    frames = tuple([
        (entry, row, _renumbered(module, frame_kinds(module, entry), held, numbers))
        for entry, row, held in waiting
    ])
    return (
        _renumbered(module, kinds, cells, numbers),
        tuple([things[thing - 1] for thing in order]) + ((0, 0),) * (len(things) - len(order)),
        tuple([numbers[thing] for thing in handed]),
        came,
        frames,
    )


def _things_held(module, kinds, held):
    """The numbers of the own things that variables of these kinds hold."""
    return [held[at] for at, kind in enumerate(kinds) if is_own(module, kind) and held[at] != 0]


def _renumbered(module, kinds, held, numbers):
    return tuple([
        numbers[held[at]] if is_own(module, kind) else held[at] for at, kind in enumerate(kinds)
    ])
