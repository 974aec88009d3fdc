"""A desk: books, modules, and guests that run, by commands."""

from nomoreseen.books import fits, fits_around
from nomoreseen.compiler import Code
from nomoreseen.errors import InvalidCommand, InvalidIndex, InvalidModule, InvalidSecrets, InvalidText, Refused
from nomoreseen.live import Live
from nomoreseen.secrets import MOST_SPOTS, least_guards, least_leaks
from nomoreseen.sights import sights
from nomoreseen.spots import TRICKS, bites, spots, spots_of
from nomoreseen.strangers import deed_of_line
from nomoreseen.texts import book_text, module_text, play_text, read_book, read_module
from nomoreseen.ticks import NEVER_SEEN
from nomoreseen.words import line_of, need_lines


class Desk:
    """A desk to which commands are said. Changes: what is kept, and what runs."""

    def __init__(self):
        self._bench = Bench()

    def say(self, command):
        """The answer to a command (any value)."""
        if not isinstance(command, str):
            raise InvalidCommand()
        lines = need_lines(command)
        word = lines[0][0] if lines[0] else ""
        if word == "book":
            return _takes_book(self._bench, command)
        if self._bench.book is None:
            raise InvalidCommand()
        if word == "module":
            return _takes_module(self._bench, command)
        if word not in COMMANDS or (len(lines) > 1 and word != "try"):
            raise InvalidCommand()
        does_command = COMMANDS[word]
        return does_command(self._bench, lines)


class Bench:
    """What a desk has: a book, modules by name, and a guest that runs, all None or empty at first."""

    def __init__(self):
        self.book = None
        self.kept = {}
        self.live = None
        self.running = None

    def begins(self, book):
        """All anew, by this book."""
        self.book = book
        self.kept = {}
        self.live = None
        self.running = None


def _takes_book(bench, command):
    try:
        book = read_book(command)
    except InvalidText:
        raise InvalidCommand() from None
    bench.begins(book)
    return book_text(book)


def _takes_module(bench, command):
    try:
        module = read_module(command)
    except InvalidText as error:
        return line_of(("line", error.at))
    bench.kept[module.name] = module
    if fits(bench.book, module) is None:
        return line_of((module.name, "guest"))
    if fits_around(bench.book, module) is None:
        return line_of((module.name, "around"))
    return line_of((module.name, "neither"))


def _kept_at(bench, words):
    """The module that the second word names."""
    if len(words) < 2 or words[1] not in bench.kept:
        raise InvalidCommand()
    return bench.kept[words[1]]


def _guest_at(bench, words):
    """The guest that the second word names."""
    module = _kept_at(bench, words)
    if fits(bench.book, module) is not None:
        raise InvalidCommand()
    return module


def _need_words(words, many):
    if len(words) != many:
        raise InvalidCommand()


def _need_tricks(words):
    if not all([word in TRICKS for word in words]):
        raise InvalidCommand()


def _text(bench, lines):
    _need_words(lines[0], 2)
    return module_text(_kept_at(bench, lines[0]))


def _bites(bench, lines):
    _need_words(lines[0], 1)
    return line_of(bites(bench.book))


def _quiet(bench, lines):
    tricks = lines[0][1:]
    _need_tricks(tricks)
    lacking = [trick for trick in bites(bench.book) if trick not in tricks]
    return line_of(["lacks"] + lacking) if lacking else "quiet"


def _spots(bench, lines):
    _need_words(lines[0], 2)
    every = spots(bench.book, _guest_at(bench, lines[0]))
    return "\n".join([_spot_told(spot) for spot in every])


def _leaks(bench, lines):
    return _lots_told(bench, lines[0], least_leaks)


def _guards(bench, lines):
    return _lots_told(bench, lines[0], least_guards)


def _lots_told(bench, words, find):
    """The lots that are found for the guest that the words name, a line each."""
    _need_words(words, 2)
    module = _guest_at(bench, words)
    if len(spots(bench.book, module)) > MOST_SPOTS:
        return "too many spots"
    lots = [lot for lot, _ in find(bench.book, module)]
    return "\n".join([", ".join([_spot_told(spot) for spot in lot]) if lot else "none" for lot in lots])


def _spot_told(spot):
    guard, seam = spot
    return line_of(spot) if seam else guard


def _try(bench, lines):
    words = lines[0]
    module = _guest_at(bench, words)
    _need_tricks(words[2:])
    deeds = [deed_of_line(bench.book, module, told) for told in lines[1:]]
    if None in deeds:
        return line_of(("line", deeds.index(None) + 1))
    code = Code(bench.book, module, spots_of(bench.book, module, words[2:]))
    try:
        told = sights(code, (0,) * len(module.secret_cells()), deeds)
    except Refused as error:
        return line_of(("behind", "never", error.at))
    return "\n".join([_sight_told(sight) for sight in told])


def _sight_told(sight):
    if sight == NEVER_SEEN:
        return "never"
    out, first, second, flag, laid = sight
    frames = ["[" + line_of(frame) + "]" for frame in laid]
    return line_of(list(out) + [":", first, second, flag] + frames)


def _start(bench, lines):
    words = lines[0]
    module = _guest_at(bench, words)
    try:
        live = Live(bench.book, module, words[2:])
    except InvalidSecrets:
        raise InvalidCommand() from None
    bench.live = live
    bench.running = module
    return line_of((words[1], "runs"))


def _need_live(bench):
    if bench.live is None:
        raise InvalidCommand()
    return bench.live


def _deed(bench, lines):
    live = _need_live(bench)
    deed = deed_of_line(bench.book, bench.running, lines[0])
    if deed is None:
        raise InvalidCommand()
    try:
        return _sight_told(live.deed(deed))
    except Refused:
        return "ended"


def _play(bench, lines):
    _need_words(lines[0], 1)
    live = _need_live(bench)
    return play_text(bench.running, live.play())


def _undo(bench, lines):
    _need_words(lines[0], 2)
    live = _need_live(bench)
    try:
        live.back_to(lines[0][1])
    except InvalidIndex:
        raise InvalidCommand() from None
    return line_of(("behind", lines[0][1]))


def _exchange(bench, lines):
    words = lines[0]
    live = _need_live(bench)
    module = _guest_at(bench, words)
    try:
        live.exchange(module, words[2:])
    except InvalidModule:
        return "other doors"
    except InvalidSecrets:
        raise InvalidCommand() from None
    except Refused as error:
        return "ended" if error.at == -1 else line_of(("seen", "at", error.at))
    bench.running = module
    return line_of((words[1], "runs"))


COMMANDS = {
    "text": _text, "bites": _bites, "quiet": _quiet, "spots": _spots, "leaks": _leaks, "guards": _guards,
    "try": _try, "start": _start, "call": _deed, "back": _deed, "play": _play, "undo": _undo,
    "exchange": _exchange,
}
