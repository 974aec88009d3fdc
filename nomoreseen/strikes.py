"""Two programs on the machine some of whose modules have fallen: what parts them, and which guards are needed."""

from collections import deque

from nomoreseen.deeds import need_room
from nomoreseen.drawings import drawn
from nomoreseen.errors import InvalidLink, InvalidLots, InvalidRoom, InvalidSize, InvalidSpots
from nomoreseen.hearing import need_one_frame, rest_parting
from nomoreseen.linker import Program
from nomoreseen.switches import GUARDS, Switch, is_deed, need_bare
from nomoreseen.turns import need_all_secrets, need_fallen
from nomoreseen.values import is_below, is_tuple, tuples_throughout

MOST_PAIRS = 3000


def fallen_parting(program, other, fallen, secrets, others, bare):
    """Some shortest script of which just the last sights are unlike; None if there is none."""
    duel = _duel(program, other, fallen, secrets, others, bare)
    script, _ = duel.searched()
    return script


def fallen_pairs(program, other, fallen, secrets, others, bare):
    """All pairs of machines that come; None if a script parts the two programs."""
    duel = _duel(program, other, fallen, secrets, others, bare)
    script, pairs = duel.searched()
    return tuple([duel.with_links(pair) for pair in pairs]) if script is None else None


def fallen_pairs_hold(program, other, fallen, secrets, others, bare, value):
    """Whether these are pairs of machines, all seen alike, from which just these come (any value)."""
    duel = _duel(program, other, fallen, secrets, others, bare)
    if not tuples_throughout(value) or not all([duel.is_pair(pair) for pair in value]):
        return False
    sights, first = duel.first()
    known = {duel.by_numbers(pair): True for pair in value}
    if sights[0] != sights[1] or (first is not None and first not in known):
        return False
    return all([duel.leads_to(pair, known) for pair in known])


def _duel(program, other, fallen, secrets, others, bare):
    need_one_frame(program, other)
    lost = need_fallen(program, fallen)
    told = need_all_secrets(program, lost, secrets)
    told_others = need_all_secrets(other, lost, others)
    return Duel(program, other, lost, (told, told_others), need_bare(bare))


class Duel:
    """Two programs of one frame on the machine, deed by deed."""

    def __init__(self, program, other, fallen, secrets, bare):
        self.switches = (Switch(program, fallen, bare), Switch(other, fallen, bare))
        self.fallen = fallen
        self.secrets = secrets
        words = range(program.book.word)
        self.ways_in = [
            (word, link, value) for word in ("call", "back") for link in range(len(program.links)) for value in words
        ]

    def first(self):
        """(what is seen of the beginnings, the machines behind them or None)."""
        machines = [switch.at_first(self.secrets[at]) for at, switch in enumerate(self.switches)]
        if self.switches[0].is_begun():
            return (((), ()), tuple(machines))
        begun = [switch.begins(machines[at]) for at, switch in enumerate(self.switches)]
        return self._both(begun)

    def _both(self, told):
        """(both sights, both machines, None if all has ended)."""
        (sight, machine), (sight_other, machine_other) = told
        has_ended = machine is None or machine_other is None
        return ((sight, sight_other), None if has_ended else (machine, machine_other))

    def deeds_at(self, pair):
        """All deeds but those that both switches refuse, and such as do what one ahead does."""
        deeds = []
        for word, link, value in self.ways_in:
            met = {}
            for room in self.fallen:
                deed = (room, word, link, value)
                refused = tuple([switch.is_refused(pair[at][0], deed) for at, switch in enumerate(self.switches)])
                if refused != (True, True) and refused not in met:
                    met[refused] = True
                    deeds.append(deed)
        return deeds

    def after(self, pair, deed):
        """(both sights, the machines behind a deed, None if all has ended)."""
        return self._both([switch.does(pair[at], deed) for at, switch in enumerate(self.switches)])

    def searched(self):
        """(some shortest script that parts or None, the pairs that were met)."""
        sights, first = self.first()
        if sights[0] != sights[1]:
            return ((), ())
        if first is None:
            return (None, ())
        came_from = {first: None}
        queue = deque([first])
        while queue:
            pair = queue.popleft()
            for deed in self.deeds_at(pair):
                sights, met = self.after(pair, deed)
                if sights[0] != sights[1]:
                    return (_way(came_from, pair) + (deed,), ())
                if met is not None and met not in came_from:
                    came_from[met] = (pair, deed)
                    queue.append(met)
            if len(came_from) > MOST_PAIRS:
                raise InvalidSize("states")
        return (None, tuple(came_from))

    def leads_to(self, pair, known):
        """Whether all deeds are seen alike at this pair, and lead to known ones."""
        for deed in self.deeds_at(pair):
            sights, met = self.after(pair, deed)
            if sights[0] != sights[1] or (met is not None and met not in known):
                return False
        return True

    def with_links(self, pair):
        """The pair of machines with the links of their piles."""
        return tuple([
            (switch.piles.links_of(pair[at][0]), pair[at][1]) for at, switch in enumerate(self.switches)
        ])

    def by_numbers(self, told):
        """The pair of machines, told with the links of their piles, with the numbers of these."""
        return tuple([
            (switch.piles.number_of(told[at][0]), told[at][1]) for at, switch in enumerate(self.switches)
        ])

    def is_pair(self, value):
        """Whether these are machines, one of each program (any value without lists)."""
        return is_tuple(value, 2) and all([_is_machine(switch, value[at]) for at, switch in enumerate(self.switches)])


def _way(came_from, pair):
    """The deeds that lead to a pair."""
    deeds = []
    while came_from[pair] is not None:
        pair, deed = came_from[pair]
        deeds.append(deed)
    return tuple(deeds[::-1])


def _is_machine(switch, value):
    if not is_tuple(value, 2) or not isinstance(value[0], tuple) or not is_tuple(value[1], len(switch.codes)):
        return False
    if not all([is_below(link, len(switch.program.links)) for link in value[0]]):
        return False
    return all([
        value[1][at] is None if code is None else _is_room(code, value[1][at]) for at, code in enumerate(switch.codes)
    ])


def _is_room(code, value):
    try:
        need_room(code, value)
    except InvalidRoom:
        return False
    return True


def drawing(guard):
    """Some (program, other, fallen, script): only without this guard the script parts the two programs."""
    _need_guard(guard)
    return drawn(guard)


def drawing_holds(guard, value):
    """Whether this (any value) shows that this guard is needed."""
    _need_guard(guard)
    if not is_tuple(value, 4) or not _is_frame(value[0], value[1], value[2]):
        return False
    program, other, fallen, script = value
    if not isinstance(script, tuple) or not all([_is_told_deed(program, fallen, deed) for deed in script]):
        return False
    if not _parts(program, other, fallen, (guard,), script) or _parts(program, other, fallen, (), script):
        return False
    secrets = ((),) * len(program.modules)
    return rest_parting(program, other, fallen, secrets, secrets) is None


def _need_guard(guard):
    if not isinstance(guard, str) or guard not in GUARDS:
        raise InvalidSpots(0)


def _is_told_deed(program, fallen, deed):
    return isinstance(deed, tuple) and is_deed(program, fallen, deed)


def _parts(program, other, fallen, bare, script):
    """Whether the sights of a script, up to the first end, are unlike."""
    secrets = ((),) * len(program.modules)
    duel = Duel(program, other, fallen, (secrets, secrets), bare)
    sights, pair = duel.first()
    for deed in script:
        if sights[0] != sights[1] or pair is None:
            break
        sights, pair = duel.after(pair, deed)
    return sights[0] != sights[1]


def _is_frame(program, other, fallen):
    """Whether these are two programs of one frame without secrets, and modules that can fall (any values)."""
    if not isinstance(program, Program) or not isinstance(other, Program) or not isinstance(fallen, tuple):
        return False
    try:
        need_one_frame(program, other)
        need_fallen(program, fallen)
    except (InvalidLink, InvalidLots):
        return False
    return not any([module.secret_cells() for module in program.modules + other.modules])
