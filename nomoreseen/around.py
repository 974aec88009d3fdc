"""Surroundings that show around just the guests that answer a play."""

from nomoreseen.books import OUTERMOST
from nomoreseen.lawful import need_comes, need_play
from nomoreseen.modules import Module
from nomoreseen.spots import need_guest
from nomoreseen.values import LETTERS

# Row 1 of each function goes round for ever: there lead all ways on which the play is left.
LOST = 1


def around(book, module, play):
    """Surroundings that show exactly if a guest with these doors answers the play's moves as it does."""
    need_guest(book, module)
    told = need_play(module, play)
    kinds = need_comes(book, module, told)
    plan = Plan(book, module, told, kinds)
    entries = [_main_entry(plan, book)]
    entries.extend([_out_entry(plan, out) for out in module.outs])
    outs = [(name, kind_in, kind_back) for name, _, kind_in, kind_back, _, _ in module.entries]
    own = [(name, book.word) for name in module.foreign]
    foreign = [name for name, _ in module.classes]
    return Module("around", own, len(plan.made), foreign, plan.cells, outs, entries)


class Plan:
    """What the surroundings do: in-move k is done when k were done; then answer k is looked at.

    kept and made have the cells of the guest's things by place, and of own ones by class and place;
    returns has, for the number of an in-move that calls, how many are done when its call returns;
    enters has, for each out, the numbers of in-moves done when the guest calls it.
    """

    def __init__(self, book, module, play, kinds):
        self.module = module
        self.word = book.word
        self.moves_told = play
        self.kinds = kinds
        self.names = Names(module)
        self.cells = []
        self.digits = []
        self.kept = {}
        self.made = {}
        self.returns = {}
        self.enters = {name: [] for name, _, _ in module.outs}
        self.count_digits()
        self.keep_things()
        self.find_comings()

    def new_cell(self, kind):
        """The name of a new cell."""
        name = self.names.fresh()
        self.cells.append((name, kind, False))
        return name

    def count_digits(self):
        """Cells that can count all in-moves."""
        least = 1
        while least <= len(self.moves_told) // 2:
            self.digits.append(self.new_cell(("num", self.word)))
            least = least * self.word

    def digits_of(self, done):
        """(cell, digit) that tell that so many in-moves were done."""
        told = []
        for cell in self.digits:
            told.append((cell, done % self.word))
            done = done // self.word
        return told

    def keep_things(self):
        """A cell for each thing that goes over, where it first does."""
        for at, move in enumerate(self.moves_told):
            kind, is_new = self.kinds[at]
            if is_new and at % 2 == 0:
                self.made[(kind[1], move[-1])] = self.new_cell(kind)
            elif is_new:
                self.kept[move[-1]] = (kind[1], self.new_cell(kind))

    def find_comings(self):
        """Where the turn comes back: to a call that returns, or to a function that the guest calls."""
        calls = []
        for at, move in enumerate(self.moves_told):
            if at % 2 == 0 and move[0] == "call":
                calls.append(at // 2)
            elif at % 2 == 1 and move[0] == "call":
                self.enters[move[1]].append(at // 2 + 1)
            elif at % 2 == 1:
                self.returns[calls.pop()] = at // 2 + 1

    def kept_ahead(self, own, place):
        """The cells of the guest's things of this class that went over ahead of this place."""
        return [self.kept[at][1] for at in range(1, place) if self.kept[at][0] == own]


class Names:
    """Names that stand for nothing yet, at no door of the guest either."""

    def __init__(self, module):
        self.taken = {OUTERMOST: True}
        self.many = 0
        for things in (module.classes, module.outs, module.entries):
            for thing in things:
                self.taken[thing[0]] = True
        for name in module.foreign:
            self.taken[name] = True

    def fresh(self):
        """The next name that is free."""
        name = OUTERMOST
        while name in self.taken:
            name = _spelled(self.many)
            self.many += 1
        return name


def _spelled(number):
    """A name for each number, unlike ones for unlike numbers."""
    name = LETTERS[number % 26]
    while number >= 26:
        number = number // 26
        name = LETTERS[number % 26] + name
    return name


class Function:
    """The rows of one function of the surroundings, as they are written."""

    def __init__(self, plan):
        self.plan = plan
        self.parameter = plan.names.fresh()
        self.used = {}
        self.rows = [("go", 2), ("go", LOST)]

    def local(self, use, kind):
        """The name of a local of this kind for this use."""
        if (use, kind) not in self.used:
            self.used[(use, kind)] = self.plan.names.fresh()
        return self.used[(use, kind)]

    def must(self, test):
        """Goes on if this row, told without its target, jumps; else round for ever."""
        self.rows.append(test + (len(self.rows) + 2,))
        self.rows.append(("go", LOST))

    def must_have_done(self, done):
        """Goes on only if just so many in-moves were done."""
        for cell, digit in self.plan.digits_of(done):
            self.must(("if", cell, digit))

    def must_have_come(self, done, variable):
        """Goes on only if a variable holds what the play's last out-move brings; a new thing is kept."""
        at = 2 * done - 1
        kind, is_new = self.plan.kinds[at]
        value = self.plan.moves_told[at][-1]
        if kind[0] == "num":
            self.must(("if", variable, value))
        elif is_new:
            self.rows.append(("same", variable, self.local("none", kind), LOST))
            for cell in self.plan.kept_ahead(kind[1], value):
                self.rows.append(("same", variable, cell, LOST))
            self.rows.append(("copy", self.plan.kept[value][1], variable))
        else:
            self.must(("same", variable, self.thing(kind, value)))

    def thing(self, kind, value):
        """The variable that holds a thing that went over, or none."""
        if value == 0:
            return self.local("none", kind)
        if kind[1] in self.plan.module.own_at:
            return self.plan.kept[value][1]
        return self.plan.made[(kind[1], value)]

    def brought(self, done):
        """The variable that holds what the next in-move brings; the rows ahead put it there."""
        kind, is_new = self.plan.kinds[2 * done]
        value = self.plan.moves_told[2 * done][-1]
        if kind[0] == "num":
            variable = self.local("brought", kind)
            self.rows.append(("set", variable, value))
            return variable
        variable = self.thing(kind, value)
        if is_new:
            field = self.local("field", ("num", self.plan.word))
            self.rows.append(("make", variable, kind[1], field))
        return variable

    def does(self, done):
        """Does the in-move behind so many; the variable to which its call returns, None for a back."""
        move = self.plan.moves_told[2 * done]
        variable = self.brought(done)
        for cell, digit in self.plan.digits_of(done + 1):
            self.rows.append(("set", cell, digit))
        if move[0] == "back":
            self.rows.append(("back", variable))
            return None
        kind_back = self.plan.module.entries[self.plan.module.entry_at(move[1])][3]
        comes = self.local("comes", kind_back)
        self.rows.append(("call", comes, move[1], variable))
        return comes

    def goes_on(self, done):
        """The in-moves of one coming, from the one behind so many on, each return looked at."""
        while 2 * done < len(self.plan.moves_told):
            variable = self.does(done)
            if variable is None:
                return
            if done not in self.plan.returns:
                self.rows.append(("go", LOST))
                return
            done = self.plan.returns[done]
            self.must_have_done(done)
            self.must_have_come(done, variable)
        self.rows.append(("show",))

    def finds(self, starts):
        """Begins by finding by the digits which coming this is; starts has (in-moves done, row)."""
        self.rows[0] = ("go", len(self.rows))
        many = 2 * len(self.plan.digits) + 1
        for done, start in starts:
            behind = len(self.rows) + many
            for cell, digit in self.plan.digits_of(done):
                self.rows.append(("if", cell, digit, len(self.rows) + 2))
                self.rows.append(("go", behind))
            self.rows.append(("go", start))
        self.rows.append(("go", LOST))

    def entry(self, name, kind_in, kind_back):
        """The whole entry of this name."""
        inner = [(self.used[told], told[1]) for told in self.used]
        return (name, self.parameter, kind_in, kind_back, inner, self.rows)


def _main_entry(plan, book):
    """The function with which a run begins, and the play."""
    function = Function(plan)
    function.goes_on(0)
    return function.entry(OUTERMOST, ("num", book.word), ("num", book.word))


def _out_entry(plan, out):
    """The function that the guest calls as this out."""
    name, kind_in, kind_back = out
    function = Function(plan)
    starts = []
    for done in plan.enters[name]:
        starts.append((done, len(function.rows)))
        function.must_have_come(done, function.parameter)
        function.goes_on(done)
    function.finds(starts)
    return function.entry(name, kind_in, kind_back)
