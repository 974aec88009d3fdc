"""Plain runs done anew, by names and with Python objects for things, to compare with."""

NEVER = (("never",), None)


class Thing:
    def __init__(self, own, field):
        self.own = own
        self.field = field


class Alien:
    def __init__(self, own, place):
        self.own = own
        self.place = place


class World:
    """A module's state, unpacked into objects."""

    def __init__(self, module, state):
        self.module = module
        self.own = [name for name, _ in module.classes]
        cells, things, handed, came, waiting = state
        self.things = [Thing(self.own[at], field) for at, field in things]
        self.aliens = {
            name: [Alien(name, place) for place in range(1, many + 1)] for name, many in zip(module.foreign, came)
        }
        self.handed = [self.things[number - 1] for number in handed]
        kinds = [kind for _, kind, _ in module.cells]
        self.cells = {cell[0]: self.held(kind, v) for cell, kind, v in zip(module.cells, kinds, cells)}
        self.waiting = []
        for entry, row, values in waiting:
            _, parameter, kind_in, _, inner, _ = module.entries[entry]
            told = [(parameter, kind_in)] + list(inner)
            self.waiting.append((entry, row, {name: self.held(kind, v) for (name, kind), v in zip(told, values)}))

    def held(self, kind, value):
        if kind[0] == "num":
            return value
        if value == 0:
            return None
        if kind[1] in self.own:
            return self.things[value - 1]
        return self.aliens[kind[1]][value - 1]

    def number(self, value):
        if value is None:
            return 0
        if isinstance(value, Thing):
            return self.things.index(value) + 1
        return value.place if isinstance(value, Alien) else value

    def comes(self, kind, value):
        if kind[0] == "num" or value == 0:
            return value if kind[0] == "num" else None
        if kind[1] in self.own:
            return self.handed[value - 1]
        aliens = self.aliens[kind[1]]
        if value == len(aliens) + 1:
            aliens.append(Alien(kind[1], value))
        return aliens[value - 1]

    def goes(self, value):
        if isinstance(value, Thing):
            if value not in self.handed:
                self.handed.append(value)
            return self.handed.index(value) + 1
        return self.number(value)

    def state(self):
        module = self.module
        frames = []
        for entry, row, values in self.waiting:
            _, parameter, _, _, inner, _ = module.entries[entry]
            names = [parameter] + [name for name, _ in inner]
            frames.append((entry, row, tuple(self.number(values[name]) for name in names)))
        return (
            tuple(self.number(self.cells[cell[0]]) for cell in module.cells),
            tuple((self.own.index(thing.own), thing.field) for thing in self.things),
            tuple(self.things.index(thing) + 1 for thing in self.handed),
            tuple(len(self.aliens[name]) for name in module.foreign),
            tuple(frames),
        )


def answered(module, state, move, most=4000):
    """(out-move, state behind it) of an in-move that is let; more than so many rows go round for ever."""
    world = World(module, state)
    if move[0] == "call":
        entry = module.entry_at(move[1])
        _, parameter, kind_in, _, inner, _ = module.entries[entry]
        values = {name: 0 if kind[0] == "num" else None for name, kind in inner}
        values[parameter] = world.comes(kind_in, move[2])
        row = 0
    else:
        entry, row, values = world.waiting.pop()
        _, target, out, _ = module.entries[entry][5][row]
        place = world.cells if target in world.cells else values
        place[target] = world.comes(module.outs[module.out_at(out)][2], move[1])
        row += 1
    for _ in range(most):
        told = step(world, entry, row, values)
        if not isinstance(told, int):
            return told
        row = told
    return NEVER


def step(world, entry, row, values):
    """The next row, or how it ends."""
    module = world.module
    word, *told = module.entries[entry][5][row]
    kinds = dict(module.variables(module.entries[entry][0]))

    def get(name):
        return world.cells[name] if name in world.cells else values[name]

    def put(name, value):
        (world.cells if name in world.cells else values)[name] = value

    if word == "show":
        return (("show",), None)
    if word == "back":
        out = ("back", world.goes(get(told[0])))
        return (out, world.state())
    if word == "call":
        out = ("call", told[1], world.goes(get(told[2])))
        world.waiting.append((entry, row, values))
        return (out, world.state())
    if word == "go":
        return told[0]
    if word == "if":
        return told[2] if get(told[0]) == told[1] else row + 1
    if word == "same":
        return told[2] if get(told[0]) is get(told[1]) else row + 1
    if word == "make" and len(world.things) == module.room:
        return NEVER
    if word == "read" and get(told[1]) is None or word == "write" and get(told[0]) is None:
        return NEVER
    if word == "set":
        put(told[0], told[1])
    elif word == "copy":
        put(told[0], get(told[1]))
    elif word == "add":
        put(told[0], (get(told[0]) + told[1]) % kinds[told[0]][1])
    elif word == "make":
        world.things.append(Thing(told[1], get(told[2])))
        put(told[0], world.things[-1])
    elif word == "read":
        put(told[0], get(told[1]).field)
    else:
        get(told[0]).field = get(told[1])
    return row + 1
