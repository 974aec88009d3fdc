"""Strangers as rows of their own, what they see and do, and texts of scripts."""

from nomoreseen.compiler import need_code
from nomoreseen.deeds import deed_of, need_script
from nomoreseen.errors import InvalidSecrets, InvalidSize, InvalidStranger, InvalidText
from nomoreseen.sights import need_codes
from nomoreseen.states import need_secrets
from nomoreseen.values import frozen, is_below, is_name, is_number, is_row, is_sequence
from nomoreseen.visits import Visit
from nomoreseen.words import need_lines, text_of

MOST_CELLS = 16
MOST_ROWS = 10000
# What stands in a row behind its word: x for R0, R1, R2, c for a cell, r for a row, k for any number.
PARTS = {
    "const": ("x", "k"), "plus": ("x", "x"), "equal": ("x", "x"), "jump": ("r",), "jumpif": ("r",),
    "load": ("x", "c"), "store": ("c", "x"), "peek": ("x", "k", "k"), "poke": ("k", "k", "x"),
    "which": ("x",), "enter": ("name", "x"), "reply": ("x",), "end": (),
}


class Stranger:
    """Whoever is linked in, as rows over registers, a flag and own cells."""

    def __init__(self, cells, rows):
        if not is_below(cells, MOST_CELLS + 1):
            raise InvalidSize("cells")
        if not is_sequence(rows):
            raise InvalidStranger(-1)
        for at, row in enumerate(rows):
            if not _row_fits(row, cells, len(rows)):
                raise InvalidStranger(at)
        self.cells = cells
        self.rows = frozen(rows)
        self.told = (cells, self.rows)


def _row_fits(row, cells, many):
    """Whether this can be a row (any value) of a stranger with so many cells and rows."""
    if not is_sequence(row) or not row or not isinstance(row[0], str) or row[0] not in PARTS:
        return False
    parts = PARTS[row[0]]
    return len(row) == 1 + len(parts) and all([
        _part_fits(part, row[at + 1], cells, many) for at, part in enumerate(parts)
    ])


def _part_fits(part, value, cells, many):
    if part == "name":
        return is_name(value)
    if part == "k":
        return is_number(value)
    limits = {"x": 3, "c": cells, "r": many}
    return is_below(value, limits[part])


def stranger_run(code, secrets, stranger, most):
    """(sights, script, how it ended) of a stranger's run."""
    need_code(code)
    told = need_secrets(code.module, secrets)
    _need_stranger(code, stranger)
    _need_most(most)
    return _ran(code, told, stranger, most)


def parted_by(one, other, secrets, stranger, most):
    """The script of a run up to the first sights by which two codes part; None if there are none."""
    need_codes(one, other)
    if not is_row(secrets, 2):
        raise InvalidSize("secrets")
    told = need_secrets(one.module, secrets[0])
    told_other = need_secrets(other.module, secrets[1])
    _need_stranger(one, stranger)
    _need_most(most)
    seen, script, _ = _ran(one, told, stranger, most)
    seen_other, _, _ = _ran(other, told_other, stranger, most)
    for at, sight in enumerate(seen):
        if sight != seen_other[at]:
            return script[:at + 1]
    return None


def _ran(code, secrets, stranger, most):
    visit = Visit(code, secrets, stranger)
    how = visit.goes(most)
    return (tuple(visit.seen), tuple(visit.script), how)


def _need_stranger(code, value):
    """Raises the error of what is no stranger that can be linked to this code (any value)."""
    if not isinstance(value, Stranger):
        raise InvalidStranger(-1)
    for at, row in enumerate(value.rows):
        is_wide = row[0] == "const" and row[2] >= code.book.word
        if is_wide or (row[0] == "enter" and row[1] not in code.module.entry_numbers):
            raise InvalidStranger(at)


def _need_most(value):
    if not is_below(value, MOST_ROWS + 1):
        raise InvalidSize("most")


def script_stranger(code, script):
    """A stranger whose run is this script."""
    need_code(code)
    rows = []
    for deed in need_script(code.book, code.module, script):
        for frame, place, word in deed[-1]:
            rows.extend([("const", 0, word), ("poke", frame, place, 0)])
        rows.append(("const", 0, deed[-2]))
        rows.append(("enter", deed[1], 0) if deed[0] == "call" else ("reply", 0))
    return Stranger(0, rows)


def script_text(code, script):
    """The text of a script, a line for each deed."""
    need_code(code)
    lines = []
    for deed in need_script(code.book, code.module, script):
        words = list(deed[:-1])
        for change in deed[-1]:
            words.extend(("poke",) + change)
        lines.append(words)
    return text_of(lines)


def read_script(code, text):
    """The script that a text (any value) tells."""
    need_code(code)
    lines = need_lines(text)
    if text == "":
        return ()
    deeds = [deed_of_line(code.book, code.module, words) for words in lines]
    if None in deeds:
        raise InvalidText(deeds.index(None))
    return tuple(deeds)


def deed_of_line(book, module, words):
    """The deed that the words of a line tell, None if they tell none."""
    many = 3 if words[:1] == ["call"] else 2
    changes = []
    for at in range(many, len(words), 4):
        if words[at] != "poke":
            return None
        changes.append(words[at + 1:at + 4])
    return deed_of(book, module, words[:many] + [changes])
