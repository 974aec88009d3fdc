"""Programs some of whose modules have fallen, on the machine: rooms of code, and the switch that keeps the pile."""

from nomoreseen.compiler import Code
from nomoreseen.errors import InvalidScript, InvalidSpots
from nomoreseen.spots import spots
from nomoreseen.ticks import done, room_at_first
from nomoreseen.turns import Rest
from nomoreseen.values import is_below, is_row, is_sequence

GUARDS = ("who", "backof", "turn")
NEVER = ("never",)
# What modules did is kept for the next time, but no more than so much.
MOST_KNOWN = 100000


class Piles:
    """Piles of links, told by numbers: 0 is the empty one. So equal piles need not be looked at link by link.

    tops has each one's newest link; under, for each one and each link, the pile beneath the newest such link,
    None if there is none; heights how many links each one has.
    """

    def __init__(self, many):
        self.tops = [None]
        self.under = [(None,) * many]
        self.heights = [0]
        self.numbers = {}

    def with_link(self, pile, link):
        """The pile with one more link on it."""
        if (pile, link) not in self.numbers:
            self.numbers[(pile, link)] = len(self.tops)
            under = self.under[pile]
            self.tops.append(link)
            self.under.append(under[:link] + (pile,) + under[link + 1:])
            self.heights.append(self.heights[pile] + 1)
        return self.numbers[(pile, link)]

    def taken_off(self, pile, link):
        """The pile without the newest such link, and all above it; as it is, if there is none."""
        found = self.under[pile][link]
        return pile if found is None else found

    def newest_of(self, pile, links):
        """The newest of these links on a pile, None if there is none."""
        met = [link for link in links if self.under[pile][link] is not None]
        heights = [self.heights[self.under[pile][link]] for link in met]
        return met[heights.index(max(heights))] if met else None

    def number_of(self, links):
        """The number of the pile of these links, the oldest first."""
        pile = 0
        for link in links:
            pile = self.with_link(pile, link)
        return pile

    def links_of(self, pile):
        """The links of a pile, the oldest first."""
        links = []
        while pile > 0:
            links.append(self.tops[pile])
            pile = self.under[pile][self.tops[pile]]
        return tuple(links[::-1])


class Switch:
    """A program's machines, (number of the pile, rooms with None for fallen modules), some guards left out.

    linked tells who calls and who is called; a deed is (room, "call" or "back", link, word).
    """

    def __init__(self, program, fallen, bare):
        self.program = program
        self.linked = Rest(program, fallen)
        self.bare = bare
        self.known = {}
        self.piles = Piles(len(program.links))
        self.codes = [
            None if self.linked.lost[at] else Code(program.book, module, spots(program.book, module))
            for at, module in enumerate(program.modules)
        ]

    def at_first(self, secrets):
        """The machine ahead of all; secrets are told rightly, None for fallen modules."""
        rooms = [
            None if code is None else room_at_first(code, secrets[at]) for at, code in enumerate(self.codes)
        ]
        return (0, tuple(rooms))

    def is_begun(self):
        """Whether a fallen one begins."""
        return self.linked.lost[self.linked.root]

    def begins(self, machine):
        """(answer, machine behind it) of the beginning of the main entry, if it is of the rest."""
        pile, rooms = machine
        return self._goes_on(pile, rooms, self.linked.root, ("call", self.program.main[1], 0, ()))

    def does(self, machine, deed):
        """(sight, machine behind it) of a deed; None for the machine behind never and over."""
        if self.is_refused(machine[0], deed):
            return (NEVER, None)
        return self._let_in(machine, deed[1], deed[2], deed[3])

    def is_refused(self, pile, deed):
        """Whether a guard refuses this deed."""
        room, word, link, _ = deed
        number = self.linked.numbers[room]
        newest = self.piles.tops[pile]
        if word == "back":
            is_right = newest == link and self.linked.callees[link] == number
            return "backof" not in self.bare and not is_right
        if "who" not in self.bare and self.linked.callers[link] != number:
            return True
        holder = self.linked.root if newest is None else self.linked.callees[newest]
        return "turn" not in self.bare and holder != number

    def _let_in(self, machine, word, link, value):
        """(sight, machine behind it) of a call or a back along a link that is not refused."""
        pile, rooms = machine
        if word == "call":
            pile = self.piles.with_link(pile, link)
            now = self.linked.callees[link]
            asked = ("call", self.program.links[link][3], value, ())
        else:
            pile = self.piles.taken_off(pile, link)
            now = self.linked.callers[link]
            asked = ("back", value, ())
        if self.linked.lost[now]:
            return ((), (pile, rooms))
        return self._goes_on(pile, rooms, now, asked)

    def _goes_on(self, pile, rooms, now, asked):
        """The rest goes on, the module now with what it is asked, until a fallen one takes it or all ends."""
        seen = set()
        while True:
            ahead = (pile, rooms, now, asked)
            if ahead in seen:
                return (NEVER, None)
            seen.add(ahead)
            out, room = self._entered(now, rooms[now], asked)
            if room is None:
                return (NEVER, None)
            rooms = rooms[:now] + (room,) + rooms[now + 1:]
            if out[0] == "call":
                link = self.linked.link_numbers[(self.program.modules[now].name, out[1])]
                pile, now = self.piles.with_link(pile, link), self.linked.callees[link]
                asked = ("call", self.program.links[link][3], out[2], ())
            else:
                answering = [at for at, callee in enumerate(self.linked.callees) if callee == now]
                link = self.piles.newest_of(pile, answering)
                if link is None:
                    return (("over", out[1]) if now == self.linked.root else NEVER, None)
                pile, now = self.piles.taken_off(pile, link), self.linked.callers[link]
                asked = ("back", out[1], ())
            if self.linked.lost[now]:
                return ((out[0], link, out[-1]), (pile, rooms))

    def _entered(self, at, room, asked):
        """(out-move, room behind it) of a deed at a module's room; None for the room behind never."""
        key = (at, room, asked)
        if key not in self.known:
            if len(self.known) >= MOST_KNOWN:
                self.known.clear()
            sight, _, behind = done(self.codes[at], room, asked)
            self.known[key] = (sight[0], behind)
        return self.known[key]


def need_bare(value):
    """The names of guards that are left out (any value), as a tuple."""
    if not is_sequence(value):
        raise InvalidSpots(-1)
    for at, name in enumerate(value):
        if name not in GUARDS or name in value[:at]:
            raise InvalidSpots(at)
    return tuple(value)


def need_deeds(program, fallen, value):
    """The deeds of a script (any value), as tuples; not whether one stands behind the end."""
    if not is_sequence(value):
        raise InvalidScript(-1)
    for at, deed in enumerate(value):
        if not is_deed(program, fallen, deed):
            raise InvalidScript(at)
    return tuple([tuple(deed) for deed in value])


def is_deed(program, fallen, value):
    """Whether this is a deed of this program (any value)."""
    if not is_row(value, 4) or value[0] not in fallen or value[1] not in ("call", "back"):
        return False
    return is_below(value[2], len(program.links)) and is_below(value[3], program.book.word)
