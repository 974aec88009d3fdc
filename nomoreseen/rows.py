"""Rows of entries: whether they fit, and how they are told by numbers."""

from nomoreseen.values import is_below, is_number, is_sequence

LAST_WORDS = ("go", "back", "show")


def row_fits(draft, row, many):
    """Whether this row (any value) fits the newest entry of a draft.

    It has so many rows; None: rows that it leads to may still come.
    """
    if not is_sequence(row) or not row or not isinstance(row[0], str) or row[0] not in LENGTHS:
        return False
    check = CHECKS[row[0]]
    return len(row) == LENGTHS[row[0]] and check(draft, row, many)


def target_of(row):
    """The number of the row that this one can jump to, None if it cannot."""
    return row[-1] if row[0] in ("if", "go", "same") else None


def _leads(target, many):
    return is_number(target) if many is None else is_below(target, many)


def _number_fits(draft, row, many):
    return is_below(row[2], draft.size_at(row[1]))


def _copy_fits(draft, row, many):
    kind = draft.kind_at(row[1])
    return kind is not None and kind == draft.kind_at(row[2])


def _if_fits(draft, row, many):
    return is_below(row[2], draft.size_at(row[1])) and _leads(row[3], many)


def _go_fits(draft, row, many):
    return _leads(row[1], many)


def _make_fits(draft, row, many):
    size = draft.field_size_at(row[1])
    return size > 0 and draft.kind_at(row[1]) == ("thing", row[2]) and draft.size_at(row[3]) == size


def _read_fits(draft, row, many):
    size = draft.field_size_at(row[2])
    return size > 0 and draft.size_at(row[1]) == size


def _write_fits(draft, row, many):
    size = draft.field_size_at(row[1])
    return size > 0 and draft.size_at(row[2]) == size


def _same_fits(draft, row, many):
    kind = draft.kind_at(row[1])
    if kind is None or kind[0] != "thing":
        return False
    return kind == draft.kind_at(row[2]) and _leads(row[3], many)


def _call_fits(draft, row, many):
    out = row[2]
    if not isinstance(out, str) or out not in draft.outs:
        return False
    return draft.outs[out] == (draft.kind_at(row[3]), draft.kind_at(row[1]))


def _back_fits(draft, row, many):
    return draft.kind_at(row[1]) == draft.kind_back


def _show_fits(draft, row, many):
    return True


LENGTHS = {
    "set": 3, "copy": 3, "add": 3, "if": 4, "go": 2, "make": 4,
    "read": 3, "write": 3, "same": 4, "call": 4, "back": 2, "show": 1,
}
CHECKS = {
    "set": _number_fits, "copy": _copy_fits, "add": _number_fits, "if": _if_fits, "go": _go_fits,
    "make": _make_fits, "read": _read_fits, "write": _write_fits, "same": _same_fits,
    "call": _call_fits, "back": _back_fits, "show": _show_fits,
}


def numbered(row, variables, sizes, classes, outs):
    """A row that fits, its variables, classes and outs told by number; add tells its n, too.

    variables, classes and outs have the numbers by name; sizes has the n of each variable with numbers.
    """
    word = row[0]
    if word in ("go", "show"):
        return row
    first = variables[row[1]]
    if word == "back":
        return (word, first)
    if word in ("copy", "read", "write"):
        return (word, first, variables[row[2]])
    if word == "same":
        return (word, first, variables[row[2]], row[3])
    if word == "make":
        return (word, first, classes[row[2]], variables[row[3]])
    if word == "call":
        return (word, first, outs[row[2]], variables[row[3]])
    if word == "add":
        return (word, first, row[2], sizes[row[1]])
    return (word, first) + row[2:]
