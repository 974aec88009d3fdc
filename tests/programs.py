"""Random programs for the tests, and the rest of a program run once more, call by call."""

from nomoreseen.linker import Program
from nomoreseen.modules import Book, Module
from nomoreseen.plain import answered, begin
from tests import makers


def random_program(rng, many=None, rows=5):
    """A program of 2 to 4 modules; modules call those behind them."""
    book = Book(rng.choice((3, 4)), rng.random() < 0.7, 0, True, False)
    many = many or rng.choice((2, 3, 3, 4))
    names = list("abcde"[:many])
    outs, heads, links = {name: [] for name in names}, {name: [] for name in names}, []
    heads["a"].append(("run", "x", kind(rng, book), kind(rng, book)))
    for at, callee in enumerate(names[1:], 1):
        for number in range(1 if rng.random() < 0.7 else 2):
            caller = rng.choice(names[:at])
            out, entry = "o" + callee + "xy"[number], "e" + callee + "xy"[number]
            kinds = kind(rng, book), kind(rng, book)
            outs[caller].append((out,) + kinds)
            heads[callee].append((entry, "x") + kinds)
            links.append((caller, out, callee, entry))
    modules = [random_part(rng, book, name, outs[name], heads[name], rows) for name in names]
    rng.shuffle(links)
    rng.shuffle(modules)
    return Program(book, modules, links, ("a", "run"))


def kind(rng, book):
    return "num", makers.size(rng, book)


def random_part(rng, book, name, outs, heads, rows):
    cells = [(cell, kind(rng, book), rng.random() < 0.4) for cell in makers.CELLS[:rng.randrange(3)]]
    entries = []
    for entry, parameter, kind_in, kind_back in heads:
        inner = [("answer", kind_back)]
        for at, (_, out_in, out_back) in enumerate(outs):
            inner += [("in" + "abcdefg"[at], out_in), ("back" + "abcdefg"[at], out_back)]
        held = [(cell, told) for cell, told, _ in cells] + [(parameter, kind_in)] + inner
        made = makers.random_rows(rng, ((), (), outs, heads), held, kind_back, rows)
        if outs and rng.random() < 0.8:
            at = rng.randrange(len(outs))
            out = outs[at][0]
            made = [("call", "back" + "abcdefg"[at], out, "in" + "abcdefg"[at])] + [later(row) for row in made]
        entries.append((entry, parameter, kind_in, kind_back, inner, made))
    return Module(name, (), 0, (), cells, outs, entries)


def later(row):
    """The row where one more stands ahead of all."""
    return row[:-1] + (row[-1] + 1,) if row[0] in ("if", "go") else row


def random_secrets(rng, program):
    return tuple(rng.choice(module.all_secrets()) for module in program.modules)


def random_fallen(rng, program):
    names = [module.name for module in program.modules]
    return tuple(rng.sample(names, rng.randint(1, len(names) - 1)))


class Never(Exception):
    pass


class Walk:
    """The rest of a program, run as calls of a function within calls."""

    def __init__(self, program, fallen, secrets):
        self.program, self.fallen = program, fallen
        self.modules = {module.name: module for module in program.modules}
        self.states = {
            module.name: None if module.name in fallen else begin(module, told) for module, told in zip(program.modules, secrets)
        }
        self.pile, self.steps = [], 0
        self.begun = program.main[0] in fallen
        self.over = False
        self.run = self.whole()
        self.answer = next(self.run) if self.begun else None

    def state(self):
        return None if self.over else (tuple(self.pile), tuple(self.states[module.name] for module in self.program.modules), self.begun)

    def holder(self):
        return self.program.links[self.pile[-1]][2] if self.pile else self.program.main[0]

    def moves(self):
        if not self.begun:
            return [("main",)]
        now = self.holder()
        told = []
        if self.pile:
            caller, out, _, _ = self.program.links[self.pile[-1]]
            told += [("back", v) for v in range(dict((o[0], o[2]) for o in self.modules[caller].outs)[out][1])]
        for at, (caller, out, _, _) in enumerate(self.program.links):
            if caller == now:
                told += [("call", at, v) for v in range(dict((o[0], o[1]) for o in self.modules[caller].outs)[out][1])]
        return told

    def does(self, move):
        """The answer to a lawful move."""
        self.steps = 0
        self.begun = True
        try:
            answer = next(self.run) if move == ("main",) else self.run.send(move)
        except Never:
            answer = ("never",)
        if answer[:1] in (("never",), ("over",)):
            self.over = True
        return answer

    def whole(self):
        value = yield from self.enter(self.program.main[0], self.program.main[1], 0, None, None)
        yield ("over", value)

    def enter(self, name, entry, value, link, caller):
        if link is not None:
            self.pile.append(link)
        if name in self.fallen:
            value = yield from self.strange(() if caller in self.fallen else ("call", link, value))
        else:
            value = yield from self.goes(name, ("call", entry, value))
        if link is not None:
            self.pile.pop()
        return value

    def strange(self, answer):
        while True:
            move = yield answer
            if move[0] == "back":
                return move[1]
            caller, _, callee, entry = self.program.links[move[1]]
            value = yield from self.enter(callee, entry, move[2], move[1], caller)
            answer = () if callee in self.fallen else ("back", move[1], value)

    def goes(self, name, move):
        while True:
            self.steps += 1
            if self.steps > 3000:
                raise Never
            out, behind = answered(self.modules[name], self.states[name], move)
            if out == ("never",):
                raise Never
            self.states[name] = behind
            if out[0] == "back":
                return out[1]
            link = [(l[0], l[1]) for l in self.program.links].index((name, out[1]))
            callee, entry = self.program.links[link][2:]
            value = yield from self.enter(callee, entry, out[2], link, name)
            move = ("back", value)
