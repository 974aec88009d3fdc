"""Programs: modules linked one to another."""

from nomoreseen.books import fits
from nomoreseen.errors import InvalidBook, InvalidLink, InvalidModule, NoName
from nomoreseen.modules import Module, need_book
from nomoreseen.values import is_row, is_sequence


class Program:
    """Modules without classes, along whose links no way comes back to where it began."""

    def __init__(self, book, modules, links, main):
        _check_book(book)
        _check_modules(book, modules)
        named = {module.name: module for module in modules}
        if not _is_main(named, main):
            raise NoName(main)
        _check_links(named, links, main)
        self.book = book
        self.modules = tuple(modules)
        self.links = tuple([tuple(link) for link in links])
        self.main = tuple(main)
        told = tuple([module.told for module in self.modules])
        self.told = (book.told, told, self.links, self.main)


def _check_book(book):
    need_book(book)
    if book.things > 0:
        raise InvalidBook("things")
    if not book.outs:
        raise InvalidBook("outs")
    if book.inside:
        raise InvalidBook("inside")


def _check_modules(book, modules):
    if not is_sequence(modules) or not 2 <= len(modules) <= 5:
        raise InvalidModule(("modules", -1))
    names = {}
    for at, module in enumerate(modules):
        if not isinstance(module, Module) or fits(book, module) is not None or module.name in names:
            raise InvalidModule(("modules", at))
        names[module.name] = True


def _entry_of(named, name, entry):
    """The entry of this name of the module of that name, None if there is none (any values)."""
    if not isinstance(name, str) or name not in named:
        return None
    return _called(named[name].entries, entry)


def _called(things, name):
    """The first of these tuples that begins with this name, None if there is none (any value)."""
    found = [thing for thing in things if thing[0] == name]
    return found[0] if found else None


def _is_main(named, main):
    return is_row(main, 2) and _entry_of(named, main[0], main[1]) is not None


def _check_links(named, links, main):
    if not is_sequence(links):
        raise InvalidLink(-1)
    outs = {}
    entries = {tuple(main): True}
    callees = {name: [] for name in named}
    for at, link in enumerate(links):
        if not _fits_kinds(named, link):
            raise InvalidLink(at)
        caller, out, callee, entry = link
        if (caller, out) in outs or (callee, entry) in entries or _leads(callees, callee, caller):
            raise InvalidLink(at)
        outs[(caller, out)] = True
        entries[(callee, entry)] = True
        callees[caller].append(callee)
    many_outs = sum([len(named[name].outs) for name in named])
    many_entries = sum([len(named[name].entries) for name in named])
    if len(outs) < many_outs or len(entries) < many_entries:
        raise InvalidLink(len(links))


def _fits_kinds(named, link):
    """Whether this is a link of an out to an entry with the same kinds (any value)."""
    if not is_row(link, 4) or not isinstance(link[0], str) or link[0] not in named:
        return False
    out = _called(named[link[0]].outs, link[1])
    entry = _entry_of(named, link[2], link[3])
    return out is not None and entry is not None and out[1:] == entry[2:4]


def _leads(callees, start, end):
    """Whether a way along links leads from here to there, of no links, too."""
    if start == end:
        return True
    return any([_leads(callees, callee, end) for callee in callees[start]])
