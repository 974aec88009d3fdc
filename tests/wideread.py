"""The machine once more, for the tests: not by its rows, but by the rows of the guest working on words."""

COST = {"set": 2, "copy": 2, "add": 3, "if": 3, "go": 1, "make": 3, "read": 3, "write": 3, "same": 4}
STOPPED = {"make": 2, "read": 2, "write": 3}


class Never(Exception):
    pass


class Wide:
    """A guest with the guards of some spots, amid strangers; met has what was held ahead of each row."""

    def __init__(self, book, module, guards, secrets):
        self.book, self.module, self.guards = book, module, set(guards)
        secrets = list(secrets)
        self.cells = [secrets.pop(0) if cell[2] else 0 for cell in module.cells]
        self.things, self.handed, self.own, self.laid = [], [], [], []
        self.met = []
        self.renamed = ("number", "") in self.guards

    def room(self):
        own = tuple((call,) if frame is None else (call, tuple(frame)) for call, frame in self.own)
        laid = tuple(map(tuple, self.laid))
        return tuple(self.cells), tuple(self.things), tuple(self.handed), own, laid

    def deed(self, deed):
        """(sight, ticks) of a deed; behind a never nothing more is asked."""
        self.ticks, self.regs, self.flag = 0, [0, 0], 0
        for frame, place, word in deed[-1]:
            if frame < len(self.laid) and place < len(self.laid[frame]):
                self.laid[frame][place] = word
        try:
            out = self.call(deed[1], deed[2]) if deed[0] == "call" else self.back(deed[1])
        except Never:
            return (("never",),), self.ticks
        return (out, *self.regs, self.flag, tuple(map(tuple, self.laid))), self.ticks

    def stop_if(self, guard, seam, wrong):
        if (guard, seam) in self.guards:
            self.ticks += 1
            if wrong():
                raise Never

    def order(self):
        numbers = [number for number, _ in self.handed]
        return numbers + [number for number in range(1, self.book.word) if number not in numbers]

    def comes(self, seam, kind, word):
        if kind[0] == "num":
            self.stop_if("below", seam, lambda: word >= kind[1])
        elif kind[1] in self.module.own_at:
            number = self.order()[word - 1] if self.renamed and word else word
            listed = dict(self.handed)
            self.stop_if("given", seam, lambda: number and number not in listed)
            self.stop_if("class", seam, lambda: listed.get(number, self.module.own_at[kind[1]]) != self.module.own_at[kind[1]])
            self.ticks += 1
            word = number
        self.ticks += 1
        return word

    def goes(self, kind, word):
        if kind[0] == "num" or kind[1] not in self.module.own_at:
            return word
        self.ticks += 1
        if word and word not in dict(self.handed):
            self.handed.append((word, self.module.own_at[kind[1]]))
        return [number for number, _ in self.handed].index(word) + 1 if self.renamed and word else word

    def call(self, name, word):
        entry = self.module.entry_at(name)
        told = self.module.entries[entry]
        self.stop_if("alone", name, lambda: self.own)
        frame = [self.comes(name, told[2], word)] + [0] * len(told[4])
        return self.rows(entry, 0, frame)

    def back(self, word):
        self.stop_if("idle", "", lambda: not self.own)
        self.ticks += 1
        calls = self.module.calls()
        if not calls:
            raise Never
        if self.own:
            call, frame = self.own.pop()
            frame = list(self.laid.pop() if frame is None else frame)
        else:
            call = 0
            frame = [0] * (1 + len(self.module.entries[calls[0][0]][4]))
        entry, row = calls[call]
        step = self.module.steps[entry][row]
        name, _, kind = self.module.outs[step[2]]
        word = self.comes(name, kind, word)
        self.put(frame, step[1], word)
        return self.rows(entry, row + 1, frame)

    def put(self, frame, at, word):
        if at < len(self.cells):
            self.cells[at] = word
        else:
            frame[at - len(self.cells)] = word

    def rows(self, entry, row, frame):
        seen = set()
        while True:
            now = row, tuple(self.cells), tuple(frame), tuple(self.things)
            if now in seen:
                raise Never
            seen.add(now)
            held = self.cells + frame
            self.met.append((entry, row, tuple(held) + tuple(self.regs) + (self.flag,)))
            step = self.module.steps[entry][row]
            if step[0] == "back":
                return self.leaves(entry, self.module.entries[entry][0], self.module.entries[entry][3], held[step[1]])
            if step[0] == "call":
                name, kind, _ = self.module.outs[step[2]]
                return self.leaves_by_call(entry, row, name, kind, held[step[3]], frame)
            row = self.row(step, row, held, frame)

    def leaves(self, entry, name, kind, word):
        self.ticks += 1
        word = self.goes(kind, word)
        self.wipe(name)
        return ("back", word)

    def leaves_by_call(self, entry, row, name, kind, word, frame):
        self.ticks += 2
        word = self.goes(kind, word)
        number = self.module.calls().index((entry, row))
        if ("frame", name) in self.guards:
            self.own.append((number, list(frame)))
        else:
            self.own.append((number, None))
            self.laid.append(list(frame))
        self.wipe(name)
        return ("call", name, word)

    def wipe(self, seam):
        self.ticks += 1
        if ("wipe", seam) in self.guards:
            self.ticks += 1
            self.regs, self.flag = [0, 0], 0

    def row(self, step, row, held, frame):
        word = step[0]
        try:
            behind = self.do(word, step, held, frame)
        except Never:
            self.ticks += STOPPED[word]
            raise
        self.ticks += COST[word]
        return row + 1 if behind is None else behind

    def do(self, word, step, held, frame):
        if word == "go":
            return step[1]
        a = step[1]
        if word == "if":
            self.regs[0], self.flag = held[a], int(held[a] == step[2])
            return step[3] if self.flag else None
        if word == "same":
            self.regs, self.flag = [held[a], held[step[2]]], int(held[a] == held[step[2]])
            return step[3] if self.flag else None
        if word in ("set", "copy", "add"):
            value = {"set": step[2], "copy": held[step[2]] if word == "copy" else 0}.get(word)
            if word == "add":
                value = (held[a] + step[2]) % step[3]
            self.regs[0] = value
            return self.put(frame, a, value)
        if word == "make":
            if len(self.things) >= self.module.room:
                raise Never
            self.things.append((step[2], held[step[3]]))
            self.regs = [held[step[3]], len(self.things)]
            return self.put(frame, a, len(self.things))
        thing = held[step[2]] if word == "read" else held[a]
        if thing == 0:
            raise Never
        there = thing <= len(self.things)
        if word == "read":
            field = self.things[thing - 1][1] if there else 0
            self.regs = [field, thing]
            return self.put(frame, a, field)
        self.regs = [held[step[2]], thing]
        if there:
            self.things[thing - 1] = (self.things[thing - 1][0], held[step[2]])
