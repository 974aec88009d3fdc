"""Texts of modules, books and plays, and what they tell."""

from nomoreseen.drafts import Draft
from nomoreseen.errors import InvalidBook, InvalidPlay, InvalidText
from nomoreseen.modules import Book, Module, need_book, need_module
from nomoreseen.rows import LAST_WORDS, row_fits, target_of
from nomoreseen.states import in_move, out_move
from nomoreseen.values import is_name, is_sequence
from nomoreseen.words import line_of, need_lines, text_of

# How far a text has come: behind nothing, the module's line, room, foreign classes, cells, outs,
# an entry's line or its locals, a row of it.
NOTHING = 0
NAMED = 1
ROOMY = 2
STRANGE = 3
CELLED = 4
CALLING = 5
ENTERED = 6
ROWED = 7

# For the first word of a line: how many words it has, the least and the greatest stage behind
# which it can stand, and the stage behind it.
PARTS = {
    "module": (2, NOTHING, NOTHING, NAMED),
    "class": (3, NAMED, NAMED, NAMED),
    "room": (2, NAMED, NAMED, ROOMY),
    "foreign": (2, ROOMY, STRANGE, STRANGE),
    "cell": (4, ROOMY, CELLED, CELLED),
    "secret": (4, ROOMY, CELLED, CELLED),
    "out": (6, ROOMY, CALLING, CALLING),
    "entry": (7, ROOMY, ROWED, ENTERED),
    "local": (4, ENTERED, ENTERED, ENTERED),
}


def module_text(module):
    """The text of a module."""
    need_module(module)
    lines = [("module", module.name)]
    lines.extend([("class",) + told for told in module.classes])
    lines.append(("room", module.room))
    lines.extend([("foreign", name) for name in module.foreign])
    lines.extend([("secret" if secret else "cell", name) + kind for name, kind, secret in module.cells])
    lines.extend([("out", name) + kind_in + kind_back for name, kind_in, kind_back in module.outs])
    for name, parameter, kind_in, kind_back, inner, rows in module.entries:
        lines.append(("entry", name, parameter) + kind_in + kind_back)
        lines.extend([("local", local) + kind for local, kind in inner])
        lines.extend(rows)
    return text_of(lines)


def read_module(text):
    """The module that a text (any value) tells."""
    lines = need_lines(text)
    reading = Reading()
    for at, words in enumerate(lines):
        if not reading.takes(words):
            raise InvalidText(at)
    if reading.stage != ROWED or not reading.is_entry_whole():
        raise InvalidText(len(lines))
    return reading.whole_module()


class Reading:
    """A module's text as far as it is read; rows are looked at as they come."""

    def __init__(self):
        self.stage = NOTHING
        self.draft = Draft()
        self.name = None
        self.classes = []
        self.room = 0
        self.foreign = []
        self.cells = []
        self.outs = []
        self.entries = []

    def takes(self, words):
        """Whether this line can stand behind those ahead of it; it is read then."""
        if not words:
            return False
        word = words[0]
        if word not in PARTS:
            return self.takes_row(tuple(words))
        many, least, most, behind = PARTS[word]
        if len(words) != many or not least <= self.stage <= most:
            return False
        self.stage = behind
        if word in ("entry", "local"):
            return self.takes_of_entry(word, words)
        return self.takes_ahead(word, words)

    def takes_ahead(self, word, words):
        """Takes a part that stands ahead of all entries."""
        if word == "module":
            self.name = words[1]
            return is_name(self.name)
        if word == "room":
            self.room = words[1]
            return not isinstance(self.room, str) and self.room < 100
        if word == "class":
            self.classes.append((words[1], words[2]))
            return self.draft.takes_class(self.classes[-1])
        if word == "foreign":
            self.foreign.append(words[1])
            return self.draft.takes_foreign(words[1])
        if word == "out":
            self.outs.append((words[1], (words[2], words[3]), (words[4], words[5])))
            return self.draft.takes_out(self.outs[-1])
        self.cells.append((words[1], (words[2], words[3]), word == "secret"))
        return self.draft.takes_cell(self.cells[-1])

    def takes_of_entry(self, word, words):
        """Takes the first line of an entry, or a local of it."""
        if word == "local":
            local = (words[1], (words[2], words[3]))
            self.entries[-1][4].append(local)
            return self.draft.takes_local(local)
        if self.entries and not self.is_entry_whole():
            return False
        head = (words[1], words[2], (words[3], words[4]), (words[5], words[6]))
        self.entries.append(head + ([], []))
        return self.draft.takes_entry(head)

    def takes_row(self, row):
        """Takes a row of the newest entry; rows that it leads to may still come."""
        if self.stage not in (ENTERED, ROWED) or not row_fits(self.draft, row, None):
            return False
        self.stage = ROWED
        self.entries[-1][5].append(row)
        return True

    def is_entry_whole(self):
        """Whether the newest entry has rows, a last one that may be it, and all that they lead to."""
        rows = self.entries[-1][5]
        if not rows or rows[-1][0] not in LAST_WORDS:
            return False
        targets = [target_of(row) for row in rows]
        return all([target is None or target < len(rows) for target in targets])

    def whole_module(self):
        """The module that was read."""
        return Module(self.name, self.classes, self.room, self.foreign, self.cells, self.outs, self.entries)


def book_text(book):
    """The text of a book."""
    need_book(book)
    outs = "inside" if book.inside else "outs" if book.outs else "alone"
    return line_of(("book", book.word, "narrow" if book.narrow else "whole", "things", book.things, outs))


def read_book(text):
    """The book that a text (any value) tells."""
    lines = need_lines(text)
    words = lines[0]
    if len(lines) != 1 or len(words) != 6 or words[0] != "book" or words[3] != "things":
        raise InvalidText(0)
    if words[2] not in ("narrow", "whole") or words[5] not in ("alone", "outs", "inside"):
        raise InvalidText(0)
    try:
        return Book(words[1], words[2] == "narrow", words[4], words[5] != "alone", words[5] == "inside")
    except InvalidBook:
        raise InvalidText(0) from None


def play_text(module, moves):
    """The text of moves of a module, a line for each."""
    need_module(module)
    if not is_sequence(moves):
        raise InvalidPlay(-1)
    told = [_move(module, move) for move in moves]
    if None in told:
        raise InvalidPlay(told.index(None))
    return text_of(told)


def read_play(module, text):
    """The moves of a module that a text (any value) tells."""
    need_module(module)
    lines = need_lines(text)
    if text == "":
        return ()
    moves = [_move(module, words) for words in lines]
    if None in moves:
        raise InvalidText(moves.index(None))
    return tuple(moves)


def _move(module, value):
    """The move of a module, of either way, that this value is, as a tuple; None if it is none."""
    told = in_move(module, value)
    return told if told is not None else out_move(module, value)
