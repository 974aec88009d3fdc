"""All errors of the package; each keeps what it was made with."""


class SeamError(Exception):
    """The base class of all errors of the package."""


class InvalidBook(SeamError):
    """A part of a book is wrong, or what should be a book is none."""

    def __init__(self, word):
        self.word = word


class InvalidModule(SeamError):
    """A place of a module is wrong, or what should be a module is none."""

    def __init__(self, at):
        self.at = at


class InvalidSecrets(SeamError):
    """No row of numbers of the secret cells."""

    def __init__(self, at):
        self.at = at


class InvalidState(SeamError):
    """A part that no state of the module can have."""

    def __init__(self, at):
        self.at = at


class InvalidPlay(SeamError):
    """A thing that is no move."""

    def __init__(self, at):
        self.at = at


class InvalidScript(SeamError):
    """A thing that is no deed."""

    def __init__(self, at):
        self.at = at


class InvalidStranger(SeamError):
    """A row that no stranger can have."""

    def __init__(self, at):
        self.at = at


class InvalidText(SeamError):
    """A line that cannot stand where it stands."""

    def __init__(self, at):
        self.at = at


class InvalidSpots(SeamError):
    """A thing that is no spot, or stood ahead."""

    def __init__(self, at):
        self.at = at


class InvalidCode(SeamError):
    """What should be code is none."""

    def __init__(self, at):
        self.at = at


class InvalidRoom(SeamError):
    """A part that no room of the code can have."""

    def __init__(self, at):
        self.at = at


class InvalidFrames(SeamError):
    """What is kept of a frame is told wrongly."""

    def __init__(self, at):
        self.at = at


class InvalidWeb(SeamError):
    """A step that no web can have."""

    def __init__(self, at):
        self.at = at


class InvalidLots(SeamError):
    """A thing that is no lot."""

    def __init__(self, at):
        self.at = at


class InvalidLink(SeamError):
    """A link that no program can have."""

    def __init__(self, at):
        self.at = at


class InvalidIndex(SeamError):
    """A place that is not there."""

    def __init__(self, at):
        self.at = at


class InvalidSize(SeamError):
    """A number, or another small part, is none that is let."""

    def __init__(self, word):
        self.word = word


class LargeTable(SeamError):
    """More states come than are looked at."""

    def __init__(self, many):
        self.many = many


class Refused(SeamError):
    """A thing that is told rightly, but cannot be done here."""

    def __init__(self, at):
        self.at = at


class NoName(SeamError):
    """Nothing is called so."""

    def __init__(self, name):
        self.name = name


class InvalidCommand(SeamError):
    """No command of the desk."""
