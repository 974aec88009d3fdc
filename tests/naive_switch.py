"""The switch once more, for the tests: piles as lists, modules called one from another."""

from nomoreseen.compiler import compiled
from nomoreseen.machine import entered, first_room
from nomoreseen.spots import spots


class Ended(Exception):
    pass


class Mirror:
    """A program on the machine; sights are told deed by deed, None behind the end."""

    def __init__(self, program, fallen, secrets, bare):
        self.program, self.fallen, self.bare = program, fallen, bare
        self.modules = {module.name: module for module in program.modules}
        self.codes = {name: compiled(program.book, module, spots(program.book, module)) for name, module in self.modules.items() if name not in fallen}
        self.rooms = {
            module.name: first_room(self.codes[module.name], told) for module, told in zip(program.modules, secrets) if module.name not in fallen
        }
        self.pile, self.over = [], False

    def machine(self):
        if self.over:
            return None
        return tuple(self.pile), tuple(self.rooms.get(module.name) for module in self.program.modules)

    def begin(self):
        """The sight of the beginning, () if a fallen one begins."""
        main, entry = self.program.main
        return () if main in self.fallen else self.runs(main, ("call", entry, 0, ()))

    def holder(self):
        return self.program.links[self.pile[-1]][2] if self.pile else self.program.main[0]

    def lets(self, deed):
        room, word, link, _ = deed
        caller, _, callee, _ = self.program.links[link]
        if word == "back":
            return "backof" in self.bare or (self.pile[-1:] == [link] and room == callee)
        return ("who" in self.bare or room == caller) and ("turn" in self.bare or room == self.holder())

    def deed(self, deed):
        if not self.lets(deed):
            self.over = True
            return ("never",)
        _, word, link, value = deed
        caller, _, callee, entry = self.program.links[link]
        if word == "call":
            self.pile.append(link)
            return self.runs(callee, ("call", entry, value, ()))
        self.cut(link)
        return self.runs(caller, ("back", value, ()))

    def cut(self, link):
        if link in self.pile:
            while self.pile.pop() != link:
                pass

    def runs(self, name, asked, told=()):
        seen = []
        while name not in self.fallen:
            here = name, asked, tuple(self.pile), tuple(sorted(self.rooms.items()))
            sight, room = entered(self.codes[name], self.rooms[name], asked)
            if room is None or here in seen:
                self.over = True
                return ("never",)
            seen.append(here)
            self.rooms[name] = room
            out = sight[0]
            if out[0] == "call":
                link = [told[:2] for told in self.program.links].index((name, out[1]))
                self.pile.append(link)
                name, asked = self.program.links[link][2], ("call", self.program.links[link][3], out[2], ())
            else:
                links = [at for at in self.pile if self.program.links[at][2] == name]
                if not links:
                    self.over = True
                    return ("over", out[1]) if name == self.program.main[0] else ("never",)
                link = links[-1]
                self.cut(link)
                name, asked = self.program.links[link][0], ("back", out[1], ())
            told = (out[0], link, out[-1])
        return told


def seen_of(program, fallen, secrets, bare, script):
    """What is seen of a script up to the first end."""
    mirror = Mirror(program, fallen, secrets, bare)
    sights = [] if program.main[0] in fallen else [mirror.begin()]
    for deed in script:
        if mirror.over:
            break
        sights.append(mirror.deed(deed))
    return tuple(sights)


def all_deeds(program, fallen):
    for room in fallen:
        for word in ("call", "back"):
            for link in range(len(program.links)):
                for value in range(program.book.word):
                    yield room, word, link, value


def slow_parting(programs, fallen, pair, bare, most):
    """The fewest deeds that part, by trying all scripts of at most so many; "long" if there are none."""
    layer = [()]
    first = [seen_of(program, fallen, secrets, bare, ()) for program, secrets in zip(programs, pair)]
    if first[0] != first[1]:
        return 0
    if first[0] and first[0][0][0] in ("never", "over"):
        return None
    for many in range(1, most + 1):
        met, behind = set(), []
        for script in layer:
            for deed in all_deeds(programs[0], fallen):
                mirrors = [replayed(program, fallen, secrets, bare, script) for program, secrets in zip(programs, pair)]
                sights = [mirror.deed(deed) for mirror in mirrors]
                if sights[0] != sights[1]:
                    return many
                machines = tuple(mirror.machine() for mirror in mirrors)
                if None not in machines and machines not in met:
                    met.add(machines)
                    behind.append(script + (deed,))
        layer = behind
        if not layer:
            return None
    return "long"


def replayed(program, fallen, secrets, bare, script):
    mirror = Mirror(program, fallen, secrets, bare)
    mirror.begin()
    for deed in script:
        mirror.deed(deed)
    return mirror
