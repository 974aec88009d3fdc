"""The way back: surroundings of the language made of a stranger's script."""

from nomoreseen.around import around
from nomoreseen.courses import Lawful
from nomoreseen.deeds import need_script
from nomoreseen.errors import Refused
from nomoreseen.pairs import need_pair


def around_for(book, one, other, secrets, others, script):
    """(surroundings that show around just one of two guests, which) if a script parts them; else None."""
    told, told_others = need_pair(book, one, other, secrets, others)
    pair = (Lawful(book, one, told), Lawful(book, other, told_others))
    for at, deed in enumerate(need_script(book, one, script)):
        if pair[0].now is None:
            raise Refused(at)
        outs = [lawful.takes_deed(deed) for lawful in pair]
        if outs[0] != outs[1]:
            # Nobody shows around a guest that answers never: the other one is told then.
            which = 1 if outs[0] == ("never",) else 0
            return (around(book, (one, other)[which], tuple(pair[which].moves)), which)
    return None
