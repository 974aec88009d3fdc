"""What a book lets: guests, surroundings, and which of them go together."""

from nomoreseen.modules import need_book, need_module

OUTERMOST = "main"


def fits(book, module):
    """None if the module is a guest of this book; else the first place at which something is not let."""
    need_book(book)
    need_module(module)
    for place in _places(module):
        if not _sizes_fit(book, module, place) or not _is_let(book, module, place):
            return place
    return None


def fits_around(book, module):
    """None if the module can be surroundings in this book; else the first place that is not let."""
    need_book(book)
    need_module(module)
    for place in _places(module):
        if not _sizes_fit(book, module, place):
            return place
    word = ("num", book.word)
    if (OUTERMOST, word, word) not in _doors(module.entries):
        return (OUTERMOST,)
    return None


def is_around(guest, module):
    """Whether the doors of a guest and of this module are made for each other."""
    need_module(guest)
    need_module(module)
    if not _all_in(module.outs, _doors(guest.entries)) or not _all_in(guest.outs, _doors(module.entries)):
        return False
    if not _all_in(module.foreign, guest.own_at) or not _all_in(guest.foreign, module.own_at):
        return False
    return not any([name in guest.own_at for name in module.own_at])


def _doors(entries):
    """(name, kind in, kind back) of the entries, as outs are told."""
    return [(entry[0], entry[2], entry[3]) for entry in entries]


def _all_in(things, others):
    return all([thing in others for thing in things])


def _places(module):
    """All places of a module, in the order in which they are looked at."""
    places = [("classes", at) for at in range(len(module.classes))]
    places.append(("room",))
    for part, things in (("foreign", module.foreign), ("cells", module.cells), ("outs", module.outs)):
        places.extend([(part, at) for at in range(len(things))])
    for at, entry in enumerate(module.entries):
        places.append(("entries", at))
        places.extend([("rows", at, row) for row in range(len(entry[5]))])
    return places


def _sizes_fit(book, module, place):
    return all([size == book.word or (book.narrow and size < book.word) for size in _sizes(module, place)])


def _sizes(module, place):
    """All n of numbers and of classes at a place."""
    if place[0] == "classes":
        return [module.classes[place[1]][1]]
    kinds = []
    if place[0] == "cells":
        kinds = [module.cells[place[1]][1]]
    elif place[0] == "outs":
        kinds = module.outs[place[1]][1:]
    elif place[0] == "entries":
        entry = module.entries[place[1]]
        kinds = [entry[2], entry[3]] + [kind for _, kind in entry[4]]
    return [size for word, size in kinds if word == "num"]


def _is_let(book, module, place):
    """Whether the book lets a guest have what stands at this place, whatever its sizes are."""
    part = place[0]
    if part == "classes":
        return module.classes[place[1]][0] != OUTERMOST and (book.things == 2 or place[1] < book.things)
    if part == "room":
        return module.room < book.word
    if part == "foreign":
        return module.foreign[place[1]] != OUTERMOST and book.things > 0
    if part == "outs":
        return module.outs[place[1]][0] != OUTERMOST and book.outs
    if part == "entries":
        return module.entries[place[1]][0] != OUTERMOST
    if part == "rows":
        return module.entries[place[1]][5][place[2]] != ("show",)
    return True
