"""Code read back: the module and the guards that a told code has."""

from nomoreseen.books import fits
from nomoreseen.compiler import Code
from nomoreseen.errors import InvalidBook, InvalidCode, InvalidModule
from nomoreseen.modules import Book, Module
from nomoreseen.spots import spots
from nomoreseen.values import is_below, is_tuple


def read_code(value):
    """(book, module, guards) of the code that is told so (any value)."""
    if not _has_form(value):
        raise InvalidCode(-1)
    book_told, _, doors, blocks, behind, resume = value
    try:
        word, narrow, things, outs, inside = book_told
        book = Book(word, narrow, things, outs, inside)
        module = _module(value)
    except InvalidBook:
        raise InvalidCode(-1)
    except InvalidModule:
        raise InvalidCode(-1)
    if fits(book, module) is not None:
        raise InvalidCode(-1)
    shown = _shown(module, doors, blocks, behind, resume)
    guards = tuple([spot for spot in spots(book, module) if spot in shown])
    if not _is_same(Code(book, module, guards).told, value):
        raise InvalidCode(-1)
    return (book, module, guards)


def _is_same(one, other):
    """Whether two values are equal, a bool to no number, a list to no tuple."""
    if isinstance(one, tuple):
        if not isinstance(other, tuple) or len(one) != len(other):
            return False
        return all([_is_same(part, other[at]) for at, part in enumerate(one)])
    return isinstance(one, bool) == isinstance(other, bool) and one == other


def _has_form(value):
    """Whether all parts have the lengths that are asked for before they are looked at."""
    if not is_tuple(value, 6) or not all([isinstance(part, tuple) for part in value]):
        return False
    book_told, head, doors, blocks, behind, resume = value
    if len(book_told) != 5 or len(head) != 7 or not isinstance(head[6], tuple):
        return False
    many = len(head[6])
    if len(doors) != many or len(blocks) != many or not _are_rows(resume):
        return False
    if not all([is_tuple(entry, 6) for entry in head[6]]):
        return False
    if not all([_are_rows(rows) for rows in doors + behind]):
        return False
    return all([isinstance(rows, tuple) and all([_are_rows(block) for block in rows]) for rows in blocks])


def _are_rows(value):
    """Whether these can be rows of the machine by their words and lengths."""
    if not isinstance(value, tuple) or not value:
        return False
    return all([
        isinstance(row, tuple) and len(row) > 0 and isinstance(row[0], str) and LENGTHS.get(row[0], 0) == len(row)
        for row in value
    ])


def _module(value):
    """The module whose head and blocks are told; what fits no row raises InvalidModule."""
    name, classes, room, foreign, cells, outs, heads = value[1]
    # The heads are looked at with a row that always fits, as the variables must be known to read rows.
    bare = Module(name, classes, room, foreign, cells, outs, [head[:5] + ((("go", 0),),) for head in heads])
    entries = []
    for at, head in enumerate(bare.entries):
        reader = Reader(bare, head[0], value[4])
        entries.append(head[:5] + (tuple([reader.row(block) for block in value[3][at]]),))
    return Module(name, classes, room, foreign, cells, outs, entries)


class Reader:
    """Reads the rows of one entry."""

    def __init__(self, module, entry, behind):
        self.names = [name for name, _ in module.variables(entry)]
        self.own_names = [name for name, _ in module.classes]
        self.out_names = [out[0] for out in module.outs]
        self.behind = behind

    def row(self, block):
        """The row whose block this is; something that fits no module, if there is none."""
        shape = tuple([row[0] for row in block])
        if shape in READERS:
            read = READERS[shape]
            return read(self, block)
        if shape[-1] == "answer":
            return ("back", self.name_at(block[0][-1]))
        return self._call(block) if shape[-1] == "out" else ()

    def _call(self, block):
        kept = [row for row in block if row[0] in ("own", "lay")]
        if len(kept) != 1 or not is_below(kept[0][1], len(self.behind)):
            return ()
        into = self.behind[kept[0][1]][-1][1] if len(self.behind[kept[0][1]][-1]) > 1 else None
        out = named(self.out_names, block[-1][1])
        return ("call", self.name_at(into), out, self.name_at(block[0][-1]))

    def name_at(self, number):
        """The name of the variable of this number (any value); None if there is none."""
        return named(self.names, number)


def named(names, number):
    """The name at this place (any value); None if there is none."""
    return names[number] if is_below(number, len(names)) else None


def _read_set(reader, block):
    return ("set", reader.name_at(block[1][1]), block[0][2])


def _read_copy(reader, block):
    return ("copy", reader.name_at(block[1][1]), reader.name_at(block[0][2]))


def _read_add(reader, block):
    return ("add", reader.name_at(block[0][2]), block[1][2])


def _read_if(reader, block):
    return ("if", reader.name_at(block[0][2]), block[1][2], block[2][1])


def _read_go(reader, block):
    return ("go", block[0][1])


def _read_make(reader, block):
    own = named(reader.own_names, block[1][2])
    return ("make", reader.name_at(block[2][1]), own, reader.name_at(block[0][2]))


def _read_read(reader, block):
    return ("read", reader.name_at(block[2][1]), reader.name_at(block[0][2]))


def _read_write(reader, block):
    return ("write", reader.name_at(block[0][2]), reader.name_at(block[1][2]))


def _read_same(reader, block):
    return ("same", reader.name_at(block[0][2]), reader.name_at(block[1][2]), block[3][1])


LENGTHS = {
    "const": 3, "load": 3, "store": 3, "plus": 4, "equal": 3, "same": 3, "jump": 2, "jumpif": 2, "make": 3,
    "field": 3, "putfield": 3, "own": 2, "lay": 2, "resume": 1, "hand": 3, "within": 2, "out": 2, "answer": 1,
    "alone": 1, "idle": 1, "below": 2, "given": 2, "class": 3, "wipe": 1,
}
BY_PLACE = ("hand", "given", "class", "within")
READERS = {
    ("const", "store"): _read_set,
    ("load", "store"): _read_copy,
    ("load", "plus", "store"): _read_add,
    ("load", "equal", "jumpif"): _read_if,
    ("jump",): _read_go,
    ("load", "make", "store"): _read_make,
    ("load", "field", "store"): _read_read,
    ("load", "load", "putfield"): _read_write,
    ("load", "load", "same", "jumpif"): _read_same,
}


def _shown(module, doors, blocks, behind, resume):
    """All guards that are seen, at their seams; other rows among them are no spots."""
    parts = [("", resume)]
    for at, entry in enumerate(module.entries):
        parts.append((entry[0], doors[at]))
        for row, step in enumerate(module.steps[at]):
            seam = module.outs[step[2]][0] if step[0] == "call" else entry[0]
            parts.append((seam, blocks[at][row]))
    for place, rows in zip(module.calls(), behind):
        step = module.steps[place[0]][place[1]]
        parts.append((module.outs[step[2]][0], rows))
    shown = []
    for seam, rows in parts:
        shown.extend([("frame" if row[0] == "own" else row[0], seam) for row in rows])
        shown.extend([("number", "") for row in rows if row[0] in BY_PLACE and row[-1] is True])
    return shown
