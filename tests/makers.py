"""Random books, modules and plays for the tests; the same ones for the same seed."""

from nomoreseen.errors import InvalidModule
from nomoreseen.modules import Book, Module
from nomoreseen.plain import answered, begin, fits_move

CELLS = "ck", "cl", "cm", "cn"
LOCALS = "lk", "ll", "lm"


def random_book(rng, words=(3, 4)):
    outs = rng.random() < 0.7
    return Book(rng.choice(words), rng.random() < 0.5, rng.randrange(3), outs, outs and rng.random() < 0.5)


def random_doors(rng, book):
    """(classes, foreign, outs, heads of entries) that the book lets."""
    classes = [("box", size(rng, book)), ("jar", size(rng, book))][:min(book.things, rng.randrange(3))]
    foreign = ["far"] if book.things and rng.random() < 0.6 else []
    named = [name for name, _ in classes] + foreign
    outs = [("g", kind(rng, book, named), kind(rng, book, named))] if book.outs else []
    if outs and rng.random() < 0.3:
        outs.append(("h", kind(rng, book, named), kind(rng, book, named)))
    heads = [(name, "x", kind(rng, book, named), kind(rng, book, named)) for name in "ef"[:rng.randint(1, 2)]]
    return classes, foreign, outs, heads


def size(rng, book):
    return rng.randint(1, book.word) if book.narrow else book.word


def kind(rng, book, named):
    if named and rng.random() < 0.6:
        return ("thing", rng.choice(named))
    return ("num", size(rng, book))


def random_guest(rng, book, doors, rows=6, secret=True):
    """A guest with these doors; the rows that go wrong at once are rare."""
    classes, foreign, outs, heads = doors
    named = [name for name, _ in classes] + list(foreign)
    cells = []
    for name in CELLS[:rng.randrange(4)]:
        told = kind(rng, book, named)
        cells.append((name, told, secret and told[0] == "num" and rng.random() < 0.3))
    entries = []
    for name, parameter, kind_in, kind_back in heads:
        inner = [(local, kind(rng, book, named)) for local in LOCALS[:rng.randrange(4)]]
        inner.append(("answer", kind_back))
        for at, (_, out_in, out_back) in enumerate(outs):
            inner += [("in" + "ab"[at], out_in), ("back" + "ab"[at], out_back)]
        inner += [("f" + own, ("num", n)) for own, n in classes] + [("t" + own, ("thing", own)) for own, n in classes]
        held = [(cell, told) for cell, told, _ in cells] + [(parameter, kind_in)] + inner
        entries.append((name, parameter, kind_in, kind_back, inner, random_rows(rng, doors, held, kind_back, rows)))
    return Module("m", classes, rng.randrange(book.word), foreign, cells, outs, entries)


def random_rows(rng, doors, held, kind_back, many):
    count = rng.randint(1, many)
    rows = [random_row(rng, doors, dict(held), kind_back, count) for _ in range(count)]
    backs = [name for name, told in held if told == kind_back]
    rows.append(("back", rng.choice(backs)) if rng.random() < 0.9 else ("go", rng.randrange(count)))
    return rows


def random_row(rng, doors, held, kind_back, many):
    classes, foreign, outs, _ = doors
    own = dict(classes)

    def some(*kinds):
        return rng.choice([name for name in held if held[name] in kinds])

    numbers = [name for name in held if held[name][0] == "num"]
    things = [name for name in held if held[name][0] == "thing"]
    words = ["go", "back"] + ["set", "add", "if"] * bool(numbers) + ["copy"]
    words += ["make", "read", "write"] * bool(own) * 2 + ["same"] * bool(things) + ["call"] * 3 * bool(outs)
    word = rng.choice(words)
    target = rng.randrange(many + 1)
    if word == "go":
        return ("go", min(many, target + 1))
    if word == "back":
        return ("back", some(kind_back))
    if word in ("set", "add", "if"):
        name = rng.choice(numbers)
        row = (word, name, rng.randrange(held[name][1]))
        return row + (target,) if word == "if" else row
    if word == "copy":
        name = rng.choice(sorted(held))
        return ("copy", name, some(held[name]))
    if word == "same":
        name = rng.choice(things)
        return ("same", name, some(held[name]), target)
    if word == "call":
        out, kind_in, kind_out = rng.choice(outs)
        return ("call", some(kind_out), out, some(kind_in))
    box = rng.choice(sorted(own))
    thing, field = some(("thing", box)), some(("num", own[box]))
    if word == "make":
        return ("make", thing, box, field)
    return ("read", field, thing) if word == "read" else ("write", thing, field)


def lawful_moves(book, module, state):
    """All in-moves that are lawful at a state, as chapter 6 tells them."""
    moves = []
    if book.inside or not state[4]:
        moves += [("call", entry[0], v) for entry in module.entries for v in range(book.word)]
    moves += [("back", v) for v in range(book.word)]
    return [move for move in moves if fits_move(module, state, move)]


def random_play(rng, book, module, secrets, most):
    """(play in, out, in, out, .., the state behind it) without a never."""
    state = begin(module, secrets)
    play = ()
    for _ in range(most):
        moves = lawful_moves(book, module, state)
        if not moves:
            break
        backs = [move for move in moves if move[0] == "back"]
        move = rng.choice(backs if backs and rng.random() < 0.6 else moves)
        out, behind = answered(module, state, move)
        if behind is None:
            continue
        play, state = play + (move, out), behind
    return play, state


def follows(book, module, secrets, play):
    """Whether a guest answers the in-moves of a play by its out-moves."""
    state = begin(module, secrets)
    for move, out in zip(play[::2], play[1::2]):
        if state is None or move not in lawful_moves(book, module, state):
            return False
        told, state = answered(module, state, move)
        if told != out:
            return False
    return True


def mutant(rng, module):
    """The module with one number in one of its rows told otherwise, or two rows exchanged; itself, if none can be."""
    for _ in range(20):
        entries = [list(entry[:5]) + [list(entry[5])] for entry in module.entries]
        rows = rng.choice(entries)[5]
        at, other = rng.randrange(len(rows)), rng.randrange(len(rows))
        if rows[at][0] in ("set", "add", "if") and rng.random() < 0.6:
            rows[at] = rows[at][:2] + (rng.randrange(3),) + rows[at][3:]
        elif rows[at][0] in ("if", "go", "same"):
            rows[at] = rows[at][:-1] + (rng.randrange(len(rows)),)
        else:
            rows[at], rows[other] = rows[other], rows[at]
        try:
            made = Module(*module.told[:6], entries)
        except InvalidModule:
            continue
        if made.told != module.told:
            return made
    return module
