"""Which bare lots of spots leak: secrets of one class side by side, lot by lot. Lots are told by spots' numbers."""

from nomoreseen.calm import script_of
from nomoreseen.compiler import Code
from nomoreseen.copies import Copies, explored
from nomoreseen.crossings import crossings
from nomoreseen.moves import lawful_calls
from nomoreseen.rooms import Rooms
from nomoreseen.runs import answer
from nomoreseen.spots import spots
from nomoreseen.states import first_state


def alike_classes(book, module):
    """The classes of secrets that nobody can part in the language."""
    found = []
    for told in _by_first_answers(book, module):
        begun = len(found)
        for secrets in told:
            place = _class_of(book, module, secrets, found[begun:])
            if place is None:
                found.append([secrets])
            else:
                found[begun + place].append(secrets)
    return tuple(sorted([tuple(told) for told in found]))


def _by_first_answers(book, module):
    """All secrets, those apart that are answered unlike at the first call: no paper need be asked for then."""
    groups = {}
    for secrets in module.all_secrets():
        state = first_state(module, secrets)
        outs = [answer(module, state, move)[0] for move in lawful_calls(book, module, state)]
        groups.setdefault(tuple(outs), []).append(secrets)
    return list(groups.values())


def _class_of(book, module, secrets, found):
    """The place of the class in which these secrets are, None if they are in none of those found."""
    for at, told in enumerate(found):
        if are_alike(book, module, told[0], secrets):
            return at
    return None


def are_alike(book, module, secrets, others):
    """Whether nobody can part two secrets in the language."""
    if secrets == others:
        return True
    first = (first_state(module, secrets), first_state(module, others))
    return explored(Copies(book, module, module, first)).parting is None


class Lots:
    """What is known of the lots of a guest's spots.

    leaks has, for each bare lot that is known to be a least one that leaks, a leak; papers, for each lot of
    guarded spots that is known to be enough, its papers; looked has what was found of bare lots.
    """

    def __init__(self, book, module):
        self.book = book
        self.module = module
        self.spots = spots(book, module)
        self.side_by_side = side_by_side(alike_classes(book, module))
        self.leaks = {}
        self.papers = {}
        self.looked = {}

    def look_at_all(self):
        """Finds all least lots that leak, and all least ones that are enough.

        Each list is the crossings of the other: a crossing of the leaks that is not enough shows a new leak.
        """
        todo = self._not_enough()
        while todo is not None:
            self._shrink(todo)
            todo = self._not_enough()

    def _not_enough(self):
        """A bare lot, with its leak, that has none of the known leaks within it; None if there is none."""
        for guarded in crossings(len(self.spots), sorted(self.leaks)):
            if guarded not in self.papers:
                bare = tuple([at for at in range(len(self.spots)) if at not in guarded])
                leak, papers = self.looked_at(bare)
                if leak is not None:
                    return (bare, leak)
                self.papers[guarded] = papers
        return None

    def _shrink(self, told):
        """Leaves out of a bare lot that leaks what it needs not, and keeps it."""
        bare, leak = told
        for at in told[0]:
            less = tuple([number for number in bare if number != at])
            found = None if self._is_calm(less) else self.looked_at(less)[0]
            if found is not None:
                bare, leak = less, found
        self.leaks[bare] = leak

    def _is_calm(self, bare):
        """Whether it is known that a bare lot does not leak: it lies within one that does not."""
        calm = [other for other in self.looked if self.looked[other][0] is None]
        return any([is_within(bare, other) for other in calm])

    def looked_at(self, bare):
        """(some leak of a bare lot, None), or (None, its papers)."""
        if bare not in self.looked:
            self.looked[bare] = self._found_at(bare)
        return self.looked[bare]

    def _found_at(self, bare):
        left_out = [self.spots[at] for at in bare]
        code = Code(self.book, self.module, [spot for spot in self.spots if spot not in left_out])
        papers = []
        known = {}
        for secrets, others in self.side_by_side:
            rooms = Rooms(code, self._cells(secrets), self._cells(others), known)
            levels = explored(rooms)
            if levels.parting is not None:
                return ((secrets, others, script_of(rooms, levels.way())), None)
            papers.append((tuple(levels.opens), tuple(levels.waits)))
        return (None, tuple(papers))

    def _cells(self, secrets):
        return first_state(self.module, secrets)[0]


def is_within(lot, other):
    """Whether all of a lot is in another one."""
    return all([number in other for number in lot])


def side_by_side(told):
    """All pairs of secrets that stand side by side in a class, class by class."""
    pairs = []
    for secrets in told:
        pairs.extend([(secrets[at], secrets[at + 1]) for at in range(len(secrets) - 1)])
    return pairs
