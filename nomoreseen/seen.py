"""What can still be seen of variables and registers ahead of a row."""

from nomoreseen.edges import Facts

REGISTERS = (-1, -2, -3)


class Seen:
    """For each row that is reached, which variables and registers can still be seen ahead of it."""

    def __init__(self, facts):
        self.facts = facts
        self.call_rows = facts.module.calls()
        self._seen = {}
        self._at_rest = {}
        self._grew = True
        while self._grew:
            self._grew = False
            for entry, steps in enumerate(facts.module.steps):
                for row in reversed(range(len(steps))):
                    if facts.is_reached(entry, row):
                        self._look(entry, row, steps[row])
                self._rest(self.ahead(entry, 0))
            for call in range(len(self.call_rows)):
                if facts.is_behind(call):
                    self._rest(self.right_behind(call))

    def ahead(self, entry, row):
        """The numbers of the variables, and -1, -2, -3 for R1, R2, Z, that are seen; None: not reached."""
        if not self.facts.is_reached(entry, row):
            return None
        return tuple(sorted(self._seen.get((entry, row), {})))

    def right_behind(self, call):
        """The numbers of the variables seen right behind a call behind which somebody can come."""
        entry, row = self.call_rows[call]
        variable = self.facts.module.steps[entry][row][1]
        return tuple([at for at in self.ahead(entry, row + 1) if at >= 0 and at != variable])

    def _look(self, entry, row, step):
        if step[0] in ("call", "back"):
            seen = self._seen_leaving(entry, row, step)
        else:
            seen = self._seen_going_on(entry, row, step)
        self._add(self._seen.setdefault((entry, row), {}), seen)

    def _rest(self, seen):
        """The cells among what is seen are seen at rest."""
        self._add(self._at_rest, [at for at in seen if 0 <= at < len(self.facts.module.cells)])

    def _add(self, known, more):
        for at in more:
            if at not in known:
                known[at] = True
                self._grew = True

    def _seen_going_on(self, entry, row, step):
        behind = []
        for target in self.facts.leads(entry, row):
            behind.extend(self.ahead(entry, target))
        if step[0] == "go":
            return behind
        lost, asked = _changed(step), _asked(step)
        if step[0] in ("copy", "add") and step[1] not in behind and -1 not in behind:
            asked = ()
        return [at for at in behind if at not in lost] + list(asked)

    def _seen_leaving(self, entry, row, step):
        module, guards = self.facts.module, self.facts.guards
        seen = [step[3] if step[0] == "call" else step[1]] + list(self._at_rest)
        seam = module.outs[step[2]][0] if step[0] == "call" else module.entries[entry][0]
        if ("wipe", seam) not in guards:
            seen.extend(REGISTERS)
        if step[0] == "call":
            many = len(module.cells)
            if ("frame", seam) not in guards:
                seen.extend(list(range(many, many + 1 + len(module.entries[entry][4]))))
            else:
                call = self.call_rows.index((entry, row))
                seen.extend([at for at in self.right_behind(call) if at >= many])
        return seen


def _changed(step):
    """What is other behind a row that goes on, whatever it was ahead."""
    word = step[0]
    if word == "if":
        return (-1, -3)
    if word == "same":
        return REGISTERS
    if word in ("make", "read"):
        return (step[1], -1, -2)
    if word == "write":
        return (-1, -2)
    return (step[1], -1)


def _asked(step):
    """The variables by which a row that goes on goes."""
    word = step[0]
    if word in ("same", "write"):
        return step[1:3]
    if word in ("copy", "read"):
        return (step[2],)
    if word == "make":
        return (step[3],)
    return () if word == "set" else (step[1],)


def kept_names(book, module, guards):
    """For each call the parameter and locals that must be kept for it; None where its frame is laid."""
    seen = Seen(Facts(book, module, guards))
    return tuple([_kept(seen, call) for call in range(len(seen.call_rows))])


def _kept(seen, call):
    facts = seen.facts
    entry, row = seen.call_rows[call]
    step = facts.module.steps[entry][row]
    if ("frame", facts.module.outs[step[2]][0]) not in facts.guards:
        return None
    if not facts.is_reached(entry, row):
        return ()
    return tuple([at for at in seen.right_behind(call) if at >= len(facts.module.cells)])
