"""Which words variables and registers can hold behind a row: sets of words as the bits of numbers.

What is held is a row of such numbers: one for each variable, then for R1, R2, Z.
"""


def one_word(word):
    """The set of this word alone."""
    return 1 << word


def words_below(many):
    """The set of all words below this number."""
    return (1 << many) - 1


def words_in(words):
    """The words of a set, as an ascending tuple."""
    return tuple([word for word in range(words.bit_length()) if (words >> word) & 1])


def but_none(words):
    """The words of a set without 0."""
    return (words >> 1) << 1


def put(held, at, words):
    """What is held with these words at this place."""
    return held[:at] + (words,) + held[at + 1:]


def ways(step, row, held, field_words, room):
    """(row, what is held there) of each way on from a row that doesn't go out; rows are of one entry."""
    word = step[0]
    if word == "go":
        return [(step[1], held)]
    if word == "if":
        return _ways_of_if(step, row, held)
    if word == "same":
        return _ways_of_same(step, row, held)
    if word == "make":
        return _ways_of_make(step, row, held, room)
    if word in ("read", "write"):
        return _ways_to_field(step, row, held, field_words)
    if word == "set":
        words = one_word(step[2])
    elif word == "copy":
        words = held[step[2]]
    else:
        words = _added(held[step[1]], step[2], step[3])
    return [(row + 1, put(put(held, step[1], words), len(held) - 3, words))]


def _added(words, number, size):
    added = 0
    for word in words_in(words):
        added = added | one_word((word + number) % size)
    return added


def _with_registers(held, first, second, flag):
    return held[:-3] + (first, second, flag)


def _ways_of_if(step, row, held):
    _, asked, number, target = step
    told = []
    yes = held[asked] & one_word(number)
    if yes:
        told.append((target, _with_registers(put(held, asked, yes), yes, held[-2], one_word(1))))
    no = held[asked] - yes
    if no:
        told.append((row + 1, _with_registers(put(held, asked, no), no, held[-2], one_word(0))))
    return told


def _ways_of_same(step, row, held):
    _, one, other, target = step
    told = []
    common = held[one] & held[other]
    if common:
        both = put(put(held, one, common), other, common)
        told.append((target, _with_registers(both, common, common, one_word(1))))
    is_one_word = len(words_in(held[one])) == 1
    if one != other and not (is_one_word and held[one] == held[other]):
        told.append((row + 1, _with_registers(held, held[one], held[other], one_word(0))))
    return told


def _ways_of_make(step, row, held, room):
    _, into, _, field = step
    if room == 0:
        return []
    made = but_none(words_below(room + 1))
    return [(row + 1, _with_registers(put(held, into, made), held[field], made, held[-1]))]


def _ways_to_field(step, row, held, field_words):
    thing = step[2] if step[0] == "read" else step[1]
    things = but_none(held[thing])
    if not things:
        return []
    met = put(held, thing, things)
    if step[0] == "write":
        return [(row + 1, _with_registers(met, held[step[2]], things, held[-1]))]
    return [(row + 1, _with_registers(put(met, step[1], field_words), field_words, things, held[-1]))]


def words_laid(step, held, room):
    """The words that a row puts into fields, where it leads on."""
    if step[0] == "make" and room > 0:
        return held[step[3]]
    if step[0] == "write" and but_none(held[step[1]]):
        return held[step[2]]
    return 0
