"""Texts of modules, books and plays, and what they tell."""

from nomoreseen.drafts import Draft
from nomoreseen.errors import InvalidBook, InvalidPlay, InvalidText
from nomoreseen.modules import Book, Module, need_book, need_module
from nomoreseen.rows import LAST_WORDS, row_fits, target_of
from nomoreseen.states import in_move, out_move
from nomoreseen.values import is_below, is_name, is_sequence
from nomoreseen.words import line_of, need_lines, text_of

# How many words lines of a module's text have, but for rows; and behind which lines they can stand.
LENGTHS = {
    "module": 2, "class": 3, "room": 2, "foreign": 2, "cell": 4, "secret": 4, "out": 6, "entry": 7, "local": 4,
}
BEHIND = {
    "module": ("",),
    "class": ("module", "class"),
    "room": ("module", "class"),
    "foreign": ("room", "foreign"),
    "cell": ("room", "foreign", "cell", "secret"),
    "secret": ("room", "foreign", "cell", "secret"),
    "out": ("room", "foreign", "cell", "secret", "out"),
    "entry": ("room", "foreign", "cell", "secret", "out", "row"),
    "local": ("entry", "local"),
    "row": ("entry", "local", "row"),
}


def module_text(module):
    """The text of a module."""
    need_module(module)
    lines = [("module", module.name)]
    lines.extend([("class",) + told for told in module.classes])
    lines.append(("room", module.room))
    lines.extend([("foreign", name) for name in module.foreign])
    lines.extend([("secret" if secret else "cell", name) + kind for name, kind, secret in module.cells])
    lines.extend([("out", name) + kind_in + kind_back for name, kind_in, kind_back in module.outs])
    for name, parameter, kind_in, kind_back, inner, rows in module.entries:
        lines.append(("entry", name, parameter) + kind_in + kind_back)
        lines.extend([("local", local) + kind for local, kind in inner])
        lines.extend(rows)
    return text_of(lines)


def read_module(text):
    """The module that a text (any value) tells."""
    lines = need_lines(text)
    reading = Reading()
    for at, words in enumerate(lines):
        if not reading.takes(words):
            raise InvalidText(at)
    if not reading.is_whole():
        raise InvalidText(len(lines))
    return reading.whole_module()


class Reading:
    """A module's text as far as it is read; rows are looked at as they come."""

    def __init__(self):
        self.newest = ""
        self.draft = Draft()
        self.name = None
        self.classes = []
        self.room = 0
        self.foreign = []
        self.cells = []
        self.outs = []
        self.entries = []

    def takes(self, words):
        """Whether this line can stand behind those ahead of it; it is read then."""
        if not words:
            return False
        line = words[0] if words[0] in LENGTHS else "row"
        if self.newest not in BEHIND[line] or len(words) != LENGTHS.get(line, len(words)):
            return False
        if line == "entry" and self.entries and not self.is_whole():
            return False
        self.newest = line
        if line == "row":
            return self.takes_row(tuple(words))
        if line in ("entry", "local"):
            return self.takes_of_entry(line, words)
        return self.takes_ahead(line, words)

    def takes_ahead(self, line, words):
        """Takes a part that stands ahead of all entries."""
        if line == "module":
            self.name = words[1]
            return is_name(self.name)
        if line == "room":
            self.room = words[1]
            return is_below(self.room, 100)
        if line == "class":
            self.classes.append((words[1], words[2]))
            return self.draft.takes_class(self.classes[-1])
        if line == "foreign":
            self.foreign.append(words[1])
            return self.draft.takes_foreign(words[1])
        if line == "out":
            self.outs.append((words[1], (words[2], words[3]), (words[4], words[5])))
            return self.draft.takes_out(self.outs[-1])
        self.cells.append((words[1], (words[2], words[3]), line == "secret"))
        return self.draft.takes_cell(self.cells[-1])

    def takes_of_entry(self, line, words):
        """Takes the first line of an entry, or a local of it."""
        if line == "local":
            local = (words[1], (words[2], words[3]))
            self.entries[-1][4].append(local)
            return self.draft.takes_local(local)
        _, name, parameter, word_in, told_in, word_back, told_back = words
        head = (name, parameter, (word_in, told_in), (word_back, told_back))
        self.entries.append(head + ([], []))
        return self.draft.takes_entry(name, parameter, head[2], head[3])

    def takes_row(self, row):
        """Takes a row of the newest entry; rows that it leads to may still come."""
        self.entries[-1][5].append(row)
        return row_fits(self.draft, row, None)

    def is_whole(self):
        """Whether the text can end here: the newest entry has its rows, and all that they lead to."""
        rows = self.entries[-1][5] if self.entries else []
        if not rows or rows[-1][0] not in LAST_WORDS:
            return False
        targets = [target_of(row) for row in rows]
        return all([target is None or target < len(rows) for target in targets])

    def whole_module(self):
        """The module that was read."""
        return Module(self.name, self.classes, self.room, self.foreign, self.cells, self.outs, self.entries)


def book_text(book):
    """The text of a book."""
    need_book(book)
    outs = "inside" if book.inside else "outs" if book.outs else "alone"
    return line_of(("book", book.word, "narrow" if book.narrow else "whole", "things", book.things, outs))


def read_book(text):
    """The book that a text (any value) tells."""
    lines = need_lines(text)
    words = lines[0]
    if len(lines) != 1 or len(words) != 6 or words[0] != "book" or words[3] != "things":
        raise InvalidText(0)
    if words[2] not in ("narrow", "whole") or words[5] not in ("alone", "outs", "inside"):
        raise InvalidText(0)
    try:
        return Book(words[1], words[2] == "narrow", words[4], words[5] != "alone", words[5] == "inside")
    except InvalidBook:
        raise InvalidText(0) from None


def play_text(module, moves):
    """The text of moves of a module, a line for each."""
    need_module(module)
    if not is_sequence(moves):
        raise InvalidPlay(-1)
    told = [_move(module, move) for move in moves]
    if None in told:
        raise InvalidPlay(told.index(None))
    return text_of(told)


def read_play(module, text):
    """The moves of a module that a text (any value) tells."""
    need_module(module)
    lines = need_lines(text)
    if text == "":
        return ()
    moves = [_move(module, words) for words in lines]
    if None in moves:
        raise InvalidText(moves.index(None))
    return tuple(moves)


def _move(module, value):
    """The move of a module, of either way, that this value is, as a tuple; None if it is none."""
    told = in_move(module, value)
    return told if told is not None else out_move(module, value)
