"""Two guests that are looked at side by side."""

from nomoreseen.errors import InvalidModule, InvalidSecrets
from nomoreseen.spots import need_guest
from nomoreseen.states import need_secrets


def need_pair(book, one, other, secrets, others):
    """The secrets of two guests with the same doors, in tuples."""
    need_guest(book, one)
    need_guest(book, other)
    need_same_doors(one, other)
    return (secrets_of(one, secrets, 0), secrets_of(other, others, 1))


def need_same_doors(one, other):
    """Raises the error of two guests whose doors differ."""
    if _entry_doors(one) != _entry_doors(other) or one.outs != other.outs:
        raise InvalidModule(("entries", -1))
    if list(one.own_at) != list(other.own_at) or one.foreign != other.foreign:
        raise InvalidModule(("classes", -1))


def _entry_doors(module):
    return [(entry[0], entry[2], entry[3]) for entry in module.entries]


def secrets_of(module, value, at):
    """The row of numbers of the secret cells; a wrong one is told by this number."""
    try:
        return need_secrets(module, value)
    except InvalidSecrets:
        raise InvalidSecrets(at)
