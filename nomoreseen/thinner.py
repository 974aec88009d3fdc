"""The steps by which a guest is spared rows and guards, told by the facts, and by what is seen, ahead of each."""

from nomoreseen.modules import Module

SET_BY = {"if": (-1, -3), "same": (-1, -2, -3)}


def with_rows(module, rows):
    """The module with these rows for each of its entries."""
    entries = [entry[:5] + (rows[at],) for at, entry in enumerate(module.entries)]
    return Module(module.name, module.classes, module.room, module.foreign, module.cells, module.outs, entries)


def plainer(seen):
    """The rows of each entry, the reached ones told more plainly."""
    return _each_reached(seen, _plainer_row)


def idle_gone(seen):
    """The rows of each entry without work that nobody sees."""
    return _each_reached(seen, _busy_row)


def _each_reached(seen, told_anew):
    entries = seen.facts.module.entries
    return [
        [
            told_anew(seen, at, row) if seen.facts.is_reached(at, row) else told
            for row, told in enumerate(entry[5])
        ]
        for at, entry in enumerate(entries)
    ]


def _plainer_row(seen, entry, row):
    told = seen.facts.module.entries[entry][5][row]
    word = told[0]
    if word in ("call", "back", "go"):
        return told
    leads = seen.facts.leads(entry, row)
    if word in ("make", "read", "write"):
        return told if leads else ("go", row)
    if word in SET_BY:
        if len(leads) > 1 or _any_in(SET_BY[word], seen.ahead(entry, leads[0])):
            return told
        return ("go", leads[0])
    return _plainer_number(seen, entry, row)


def _plainer_number(seen, entry, row):
    """A row set, copy or add told more plainly."""
    module = seen.facts.module
    told, step = module.entries[entry][5][row], module.steps[entry][row]
    words = seen.facts.words_at(entry, row)
    is_hidden = -1 not in seen.ahead(entry, row + 1)
    if is_hidden and (_is_held(step, words) or (step[0] == "copy" and step[1] == step[2])):
        return ("go", row + 1)
    if step[0] == "copy":
        known = words[step[2]]
        _, (kind, size) = module.variables(module.entries[entry][0])[step[1]]
        return ("set", told[1], known[0]) if len(known) == 1 and kind == "num" and known[0] < size else told
    if step[0] == "add" and len(words[step[1]]) == 1:
        return ("set", told[1], (words[step[1]][0] + step[2]) % step[3])
    return told


def _is_held(step, words):
    """Whether a row sets what its variable has already."""
    return step[0] == "set" and words[step[1]] == (step[2],)


def _any_in(things, others):
    return any([thing in others for thing in things])


def _busy_row(seen, entry, row):
    told, step = seen.facts.module.entries[entry][5][row], seen.facts.module.steps[entry][row]
    if told[0] not in ("set", "copy", "add") or _any_in((step[1], -1), seen.ahead(entry, row + 1)):
        return told
    return ("go", row + 1)


def followed(module):
    """The rows of each entry, jumps leading to where gos lead in the end."""
    return [[_followed_row(entry[5], row) for row in entry[5]] for entry in module.entries]


def _followed_row(rows, row):
    if row[0] not in ("go", "if", "same"):
        return row
    met = set()
    at = row[-1]
    while rows[at][0] == "go":
        if at in met:
            return row
        met.add(at)
        at = rows[at][1]
    return row[:-1] + (at,)


def struck(facts):
    """The rows of each entry without those that nobody comes to."""
    module = facts.module
    numbers = {call: at for at, call in enumerate(module.calls())}
    rows = []
    for entry in range(len(module.entries)):
        stays = [_row_that_stays(facts, entry, row, numbers) for row in range(len(module.steps[entry]))]
        rows.append(_renumbered(stays))
    return rows


def _row_that_stays(facts, entry, row, calls):
    """The row, or what it becomes; None if it is struck."""
    rows = facts.module.entries[entry][5]
    if facts.is_reached(entry, row):
        return None if rows[row] == ("go", row + 1) else rows[row]
    if rows[row][0] == "call" and facts.is_behind(calls[(entry, row)]):
        return rows[row]
    is_next = row > 0 and facts.is_reached(entry, row - 1) and rows[row - 1][0] not in ("go", "back")
    return ("go", row) if is_next else None


def _renumbered(stays):
    """The rows that stay, jumps leading to the next one that stays, or to row 0."""
    numbers = []
    many = 0
    for row in stays:
        numbers.append(many)
        many += 0 if row is None else 1
    told = []
    for row in stays:
        if row is not None and row[0] in ("go", "if", "same"):
            target = numbers[row[-1]]
            told.append(row[:-1] + (target if target < many else 0,))
        elif row is not None:
            told.append(row)
    return told


def lot_left(facts):
    """The guards without those that nothing can come to; they are spots of the module."""
    return tuple([spot for spot in facts.guards if _is_needed(facts, spot)])


def _is_needed(facts, spot):
    guard, seam = spot
    if guard == "wipe":
        return _leaves_words(facts, seam)
    if guard == "alone":
        return any([facts.is_reached(entry, row) for entry, row in facts.module.calls()])
    if guard == "class":
        own = facts.module.own_at[_class_in(facts.module, seam)]
        others = [at for at in range(len(facts.module.classes)) if at != own]
        return any([facts.handed_out(at) for at in others])
    return True


def _class_in(module, seam):
    """The class of the things that come in at a seam."""
    if seam in module.entry_numbers:
        return module.entries[module.entry_numbers[seam]][2][1]
    return module.outs[module.out_numbers[seam]][2][1]


def _leaves_words(facts, seam):
    """Whether R1, R2 or Z can hold anything but 0 where something goes out at a seam."""
    module = facts.module
    for entry, steps in enumerate(module.steps):
        for row, step in enumerate(steps):
            if _goes_out_at(module, entry, step, seam) and facts.is_reached(entry, row):
                if facts.words_at(entry, row)[-3:] != ((0,),) * 3:
                    return True
    return False


def _goes_out_at(module, entry, step, seam):
    if step[0] == "call":
        return module.outs[step[2]][0] == seam
    return step[0] == "back" and module.entries[entry][0] == seam
