"""The compiler: a guest and its guards, told as rows of the machine."""

from nomoreseen.errors import InvalidCode
from nomoreseen.modules import is_own
from nomoreseen.spots import need_spots
from nomoreseen.values import places_of


class Code:
    """The code of a guest in which the guards of some spots stand.

    call_rows has (entry, row) of each call, call_numbers the number of the call by these.
    """

    def __init__(self, book, module, guards):
        self.guards = need_spots(book, module, guards)
        self.book = book
        self.module = module
        self.call_rows = module.calls()
        self.call_numbers = places_of(self.call_rows)
        self.doors = tuple([self._door(entry) for entry in module.entries])
        self.blocks = tuple([
            tuple([self._block(entry, row, step) for row, step in enumerate(steps)])
            for entry, steps in enumerate(module.steps)
        ])
        self.behind = tuple([self._behind(entry, row) for entry, row in self.call_rows])
        self.resume = self._guard("idle", "", ("idle",)) + (("resume",),)
        bare = tuple([entry[:5] + ((),) for entry in module.entries])
        told = module.told[:6] + (bare,)
        self.told = (book.told, told, self.doors, self.blocks, self.behind, self.resume)

    def _guard(self, guard, seam, row):
        """The row of a guard, if it stands at this seam."""
        return (row,) if (guard, seam) in self.guards else ()

    def _is_renamed(self):
        return ("number", "") in self.guards

    def _comes_in(self, seam, kind):
        """The rows that look at what comes in."""
        word, told = kind
        if word == "num":
            return self._guard("below", seam, ("below", told))
        if not is_own(self.module, kind):
            return ()
        renamed = self._is_renamed()
        given = self._guard("given", seam, ("given", renamed))
        unlike = self._guard("class", seam, ("class", self.module.own_at[told], renamed))
        return given + unlike + (("within", renamed),)

    def _goes_out(self, kind):
        """The rows that hand out what goes out."""
        if not is_own(self.module, kind):
            return ()
        return (("hand", self.module.own_at[kind[1]], self._is_renamed()),)

    def _door(self, entry):
        parameter = len(self.module.cells)
        alone = self._guard("alone", entry[0], ("alone",))
        return alone + self._comes_in(entry[0], entry[2]) + (("store", parameter, 0),)

    def _behind(self, entry, row):
        step = self.module.steps[entry][row]
        name, _, kind_back = self.module.outs[step[2]]
        return self._comes_in(name, kind_back) + (("store", step[1], 0),)

    def _block(self, entry, row, step):
        if step[0] == "call":
            return self._call_block(self.call_numbers[(entry, row)], step)
        if step[0] == "back":
            name, _, _, kind_back, _, _ = self.module.entries[entry]
            wiped = self._guard("wipe", name, ("wipe",))
            return (("load", 0, step[1]),) + self._goes_out(kind_back) + wiped + (("answer",),)
        block = BLOCKS[step[0]]
        return block(step)

    def _call_block(self, call, step):
        name, kind_in, _ = self.module.outs[step[2]]
        kept = ("own", call) if ("frame", name) in self.guards else ("lay", call)
        wiped = self._guard("wipe", name, ("wipe",))
        return (("load", 0, step[3]),) + self._goes_out(kind_in) + (kept,) + wiped + (("out", step[2]),)


def compiled(book, module, guards):
    """The code of a guest with the guards of these spots."""
    return Code(book, module, guards)


def need_code(value):
    """Raises the error of what should be code and is none."""
    if not isinstance(value, Code):
        raise InvalidCode(("code",))


def frame_size(module, entry):
    """How many words a frame of the entry of this number has."""
    return 1 + len(module.entries[entry][4])


def _set_block(step):
    _, into, number = step
    return (("const", 1, number), ("store", into, 1))


def _copy_block(step):
    _, into, start = step
    return (("load", 1, start), ("store", into, 1))


def _add_block(step):
    _, into, number, size = step
    return (("load", 1, into), ("plus", 1, number, size), ("store", into, 1))


def _if_block(step):
    _, asked, number, target = step
    return (("load", 1, asked), ("equal", 1, number), ("jumpif", target))


def _go_block(step):
    return (("jump", step[1]),)


def _make_block(step):
    _, into, own, field = step
    return (("load", 1, field), ("make", 2, own), ("store", into, 2))


def _read_block(step):
    _, into, thing = step
    return (("load", 2, thing), ("field", 1, 2), ("store", into, 1))


def _write_block(step):
    _, thing, field = step
    return (("load", 2, thing), ("load", 1, field), ("putfield", 2, 1))


def _same_block(step):
    _, one, other, target = step
    return (("load", 1, one), ("load", 2, other), ("same", 1, 2), ("jumpif", target))


BLOCKS = {
    "set": _set_block, "copy": _copy_block, "add": _add_block, "if": _if_block, "go": _go_block,
    "make": _make_block, "read": _read_block, "write": _write_block, "same": _same_block,
}
