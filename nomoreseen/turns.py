"""Programs some of whose modules have fallen: who has the turn, and how the rest goes on."""

from nomoreseen.errors import InvalidLink, InvalidLots, InvalidSecrets
from nomoreseen.linker import Program
from nomoreseen.pairs import secrets_of
from nomoreseen.runs import answer
from nomoreseen.states import first_state
from nomoreseen.values import is_row, is_sequence, places_of


class Rest:
    """The rest of a program, by the numbers of its modules; states are told rightly here."""

    def __init__(self, program, fallen):
        self.program = program
        self.numbers = places_of([module.name for module in program.modules])
        self.lost = [module.name in fallen for module in program.modules]
        self.callers = [self.numbers[link[0]] for link in program.links]
        self.callees = [self.numbers[link[2]] for link in program.links]
        self.link_numbers = places_of([(link[0], link[1]) for link in program.links])
        self.root = self.numbers[program.main[0]]

    def at_first(self, secrets):
        """The state at first; secrets are told rightly, None for fallen modules."""
        states = [
            None if self.lost[at] else first_state(module, secrets[at])
            for at, module in enumerate(self.program.modules)
        ]
        return ((), tuple(states), self.lost[self.root])

    def holder(self, pile):
        """The number of the module that has the turn."""
        return self.callees[pile[-1]] if pile else self.root

    def moves_at(self, told):
        """All lawful moves at a state, ascending."""
        pile, _, begun = told
        if not begun:
            return [("main",)]
        moves = []
        now = self.holder(pile)
        if pile and self.lost[now]:
            moves.extend([("back", value) for value in range(self._out_of(pile[-1])[2][1])])
        for link, caller in enumerate(self.callers):
            if caller == now and self.lost[now]:
                moves.extend([("call", link, value) for value in range(self._out_of(link)[1][1])])
        return moves

    def answered_by(self, told, move):
        """(answer, state behind it) of a lawful move; None for the state behind never and over."""
        pile, states, _ = told
        if move[0] == "main":
            return self._goes_on((), states, self.root, ("call", self.program.main[1], 0))
        if move[0] == "call":
            behind = pile + (move[1],)
            callee = self.callees[move[1]]
            asked = ("call", self.program.links[move[1]][3], move[2])
        else:
            behind = pile[:-1]
            callee = self.callers[pile[-1]]
            asked = move
        if self.lost[callee]:
            return ((), (behind, states, True))
        return self._goes_on(behind, states, callee, asked)

    def _goes_on(self, pile, states, now, asked):
        """The rest goes on, the module now with what it is asked, until a fallen one has the turn or it ends."""
        seen = set()
        while True:
            ahead = (pile, states, now, asked)
            if ahead in seen:
                return (("never",), None)
            seen.add(ahead)
            out, behind = answer(self.program.modules[now], states[now], asked)
            if behind is None:
                return (("never",), None)
            states = states[:now] + (behind,) + states[now + 1:]
            if out[0] == "back" and not pile:
                return (("over", out[1]), None)
            if out[0] == "call":
                link = self.link_numbers[(self.program.modules[now].name, out[1])]
                pile, now = pile + (link,), self.callees[link]
                asked = ("call", self.program.links[link][3], out[2])
                told = ("call", link, out[2])
            else:
                link, asked = pile[-1], out
                pile, now = pile[:-1], self.callers[link]
                told = ("back", link, out[1])
            if self.lost[now]:
                return (told, (pile, states, True))

    def _out_of(self, link):
        """(name, kind in, kind back) of the out of a link."""
        caller = self.program.modules[self.callers[link]]
        return caller.outs[caller.out_numbers[self.program.links[link][1]]]


def need_program(value):
    """Raises the error of what should be a program and is none."""
    if not isinstance(value, Program):
        raise InvalidLink(-1)


def need_fallen(program, value):
    """The names of the fallen modules (any value), as a tuple."""
    many = len(program.modules)
    if not is_sequence(value) or not 0 < len(value) < many:
        raise InvalidLots(-1)
    names = [module.name for module in program.modules]
    for at, name in enumerate(value):
        if name not in names or name in value[:at]:
            raise InvalidLots(at)
    return tuple(value)


def need_all_secrets(program, fallen, value):
    """For each module the row of numbers of its secret cells; None for a fallen one."""
    if not is_row(value, len(program.modules)):
        raise InvalidSecrets(-1)
    secrets = []
    for at, module in enumerate(program.modules):
        secrets.append(None if module.name in fallen else secrets_of(module, value[at], at))
    return secrets
