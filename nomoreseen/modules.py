"""Books of features, and the modules of the language."""

from nomoreseen.drafts import Draft
from nomoreseen.errors import InvalidBook, InvalidModule, NoName
from nomoreseen.rows import LAST_WORDS, numbered, row_fits
from nomoreseen.values import frozen, is_below, is_name, is_row, is_sequence, places_of


class Book:
    """Which features a language has."""

    def __init__(self, word, narrow, things, outs, inside):
        if not is_below(word, 17) or word < 3:
            raise InvalidBook("word")
        if not isinstance(narrow, bool):
            raise InvalidBook("narrow")
        if not is_below(things, 3):
            raise InvalidBook("things")
        if not isinstance(outs, bool):
            raise InvalidBook("outs")
        if not isinstance(inside, bool) or (inside and not outs):
            raise InvalidBook("inside")
        self.word = word
        self.narrow = narrow
        self.things = things
        self.outs = outs
        self.inside = inside
        self.told = (word, narrow, things, outs, inside)


class Module:
    """A module of the language, guest or surroundings.

    own_at, foreign_at, entry_numbers and out_numbers have the numbers by name;
    steps has the rows of each entry told by numbers.
    """

    def __init__(self, name, classes, room, foreign, cells, outs, entries):
        _check_parts(name, classes, room, foreign, cells, outs, entries)
        self.name = name
        self.classes = frozen(classes)
        self.room = room
        self.foreign = frozen(foreign)
        self.cells = frozen(cells)
        self.outs = frozen(outs)
        self.entries = frozen(entries)
        self.told = (name, self.classes, room, self.foreign, self.cells, self.outs, self.entries)
        self.own_at = places_of([told[0] for told in self.classes])
        self.foreign_at = places_of(self.foreign)
        self.out_numbers = places_of([told[0] for told in self.outs])
        self.entry_numbers = places_of([told[0] for told in self.entries])
        self.steps = tuple([self._numbered_rows(told) for told in self.entries])

    def _numbered_rows(self, entry):
        kinds = self.variables(entry[0])
        variables = places_of([name for name, kind in kinds])
        sizes = {name: kind[1] for name, kind in kinds}
        return tuple([numbered(row, variables, sizes, self.own_at, self.out_numbers) for row in entry[5]])

    def entry_at(self, name):
        """The number of the entry of this name (any value)."""
        if not isinstance(name, str) or name not in self.entry_numbers:
            raise NoName(name)
        return self.entry_numbers[name]

    def out_at(self, name):
        """The number of the out of this name (any value)."""
        if not isinstance(name, str) or name not in self.out_numbers:
            raise NoName(name)
        return self.out_numbers[name]

    def variables(self, name):
        """(name, kind) of the variables of the entry of this name (any value)."""
        _, parameter, kind_in, _, inner, _ = self.entries[self.entry_at(name)]
        cells = tuple([(cell, kind) for cell, kind, _ in self.cells])
        return cells + ((parameter, kind_in),) + inner

    def calls(self):
        """(entry, row), by numbers, of each row that calls out."""
        return tuple([
            (entry, at) for entry, steps in enumerate(self.steps)
            for at, step in enumerate(steps) if step[0] == "call"
        ])

    def secret_cells(self):
        """The numbers of the secret cells."""
        return tuple([at for at, cell in enumerate(self.cells) if cell[2]])

    def all_secrets(self):
        """All secrets, ascending: a number for each secret cell."""
        secrets = [()]
        for at in self.secret_cells():
            size = self.cells[at][1][1]
            secrets = [ahead + (number,) for ahead in secrets for number in range(size)]
        return tuple(secrets)


def need_book(value):
    """Raises the error of what should be a book and is none."""
    if not isinstance(value, Book):
        raise InvalidBook("book")


def need_module(value):
    """Raises the error of what should be a module and is none."""
    if not isinstance(value, Module):
        raise InvalidModule(("module",))


def is_own(module, kind):
    """Whether this is a kind of things of an own class of the module."""
    return kind[0] == "thing" and kind[1] in module.own_at


def _check_parts(name, classes, room, foreign, cells, outs, entries):
    draft = Draft()
    if not is_name(name):
        raise InvalidModule(("name",))
    _check_each("classes", classes, draft.takes_class)
    if not is_below(room, 100):
        raise InvalidModule(("room",))
    _check_each("foreign", foreign, draft.takes_foreign)
    _check_each("cells", cells, draft.takes_cell)
    _check_each("outs", outs, draft.takes_out)
    if not is_sequence(entries) or not entries:
        raise InvalidModule(("entries", -1))
    for at, entry in enumerate(entries):
        if not _takes_whole_entry(draft, entry):
            raise InvalidModule(("entries", at))
        _check_rows(draft, at, entry[5])


def _check_each(part, things, takes):
    if not is_sequence(things):
        raise InvalidModule((part, -1))
    for at, thing in enumerate(things):
        if not takes(thing):
            raise InvalidModule((part, at))


def _takes_whole_entry(draft, entry):
    """Takes all of an entry but its rows."""
    if not is_row(entry, 6):
        return False
    name, parameter, kind_in, kind_back, inner, _ = entry
    if not draft.takes_entry(name, parameter, kind_in, kind_back) or not is_sequence(inner):
        return False
    return all([draft.takes_local(local) for local in inner])


def _check_rows(draft, entry, rows):
    if not is_sequence(rows) or not rows:
        raise InvalidModule(("rows", entry, -1))
    for at, row in enumerate(rows):
        is_last = at == len(rows) - 1
        if not row_fits(draft, row, len(rows)) or (is_last and row[0] not in LAST_WORDS):
            raise InvalidModule(("rows", entry, at))
