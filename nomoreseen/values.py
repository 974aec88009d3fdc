"""Small questions about any values."""

FIGURES = "0123456789"
LETTERS = "abcdefghijklmnopqrstuvwxyz"


def is_number(value):
    """Whether this is an integer from 0 on; a bool is none."""
    return isinstance(value, int) and not isinstance(value, bool) and value >= 0


def is_below(value, limit):
    """Whether this is a number below the limit."""
    return is_number(value) and value < limit


def is_size(value):
    """Whether numbers below this one can be a kind, or the field of a class."""
    return is_below(value, 17) and value > 0


def is_sequence(value):
    """Whether this is a list or a tuple."""
    return isinstance(value, (list, tuple))


def is_row(value, many):
    """Whether this is a list or a tuple of so many things."""
    return is_sequence(value) and len(value) == many


def is_tuple(value, many):
    """Whether this is a tuple of so many things."""
    return isinstance(value, tuple) and len(value) == many


def is_name(value):
    """Whether this is a string of 1 to 8 letters a to z."""
    if not isinstance(value, str) or not 1 <= len(value) <= 8:
        return False
    return all([sign in LETTERS for sign in value])


def frozen(value):
    """The value with tuples in the place of all lists, also within."""
    if is_sequence(value):
        return tuple([frozen(part) for part in value])
    return value


def tuples_throughout(value):
    """Whether this is a tuple, with tuples in the place of all lists within."""
    return isinstance(value, tuple) and not has_lists(value)


def has_lists(value):
    """Whether this is a list, or has one within."""
    if isinstance(value, list):
        return True
    return isinstance(value, tuple) and any([has_lists(part) for part in value])


def places_of(things):
    """For each thing, a name, its number."""
    return {thing: at for at, thing in enumerate(things)}
