"""Webs of levels: where a bound of the pile parts two runs, for all bounds.

A place is (level, gap): how far the sum of the one run is ahead of that of the other one.
The greater one of both sums tells, with the place, all that matters of a way.
"""

from nomoreseen.errors import InvalidSize, InvalidWeb
from nomoreseen.values import is_below, is_row, is_sequence

# No step adds more to a sum: what is further back, or further apart, no longer matters.
WIDEST = 4


def need_web(value):
    """The web in tuples."""
    if not is_row(value, 2) or not is_below(value[0], 5) or value[0] == 0:
        raise InvalidWeb(-1)
    levels, steps = value
    if not is_sequence(steps) or len(steps) > 12:
        raise InvalidWeb(-1)
    told = []
    for at, step in enumerate(steps):
        if not _is_step(levels, step) or (told and tuple(step) <= told[-1]):
            raise InvalidWeb(at)
        told.append(tuple(step))
    return (levels, tuple(told))


def _is_step(levels, step):
    if not is_row(step, 4):
        return False
    start, one, other, end = step
    if not is_below(start, levels) or not is_below(end, levels):
        return False
    return is_below(one, 5) and one > 0 and is_below(other, 5) and other > 0


def parted_bounds(web):
    """The shortest (ahead, over and over) that tell for each bound whether it parts."""
    levels, steps = need_web(web)
    far = _far_gaps(levels, steps)
    layers = {0: {(0, 0): True}}
    parts = []
    windows = {}
    while True:
        total = len(parts)
        layer = layers.setdefault(total, {})
        if _any_far(far, layer):
            return _shortest(parts, [True])
        window = tuple([tuple(sorted(layers.get(total - back, {}))) for back in range(WIDEST)])
        if window in windows:
            start = windows[window]
            return _shortest(parts[:start], parts[start:])
        windows[window] = total
        for place in list(layer):
            _step_on(steps, total, place, layers)
        parts.append(_parts_now(steps, total, layers))


def _sums(total, gap):
    """Both sums of a way, of which the greater one is the total."""
    return (total - max(0, -gap), total - max(0, gap))


def _step_on(steps, total, place, layers):
    """Puts the places to which steps lead from here into the layers of their totals."""
    level, gap = place
    first, second = _sums(total, gap)
    for start, one, other, end in steps:
        if start == level:
            further = max(first + one, second + other)
            layers.setdefault(further, {})[(end, gap + one - other)] = True


def _parts_now(steps, bound, layers):
    """Whether this bound parts; all places of the totals up to it are known."""
    for total in range(bound - WIDEST + 1, bound + 1):
        for level, gap in layers.get(total, {}):
            first, second = _sums(total, gap)
            for start, one, other, _ in steps:
                if start == level and (first + one <= bound) != (second + other <= bound):
                    return True
    return False


def _far_gaps(levels, steps):
    """For each level (low, high): from gaps as far out as these a ring parts all bounds to come.

    Round such a ring the gap grows, and nowhere on it the lesser sum comes beyond the greater one
    of the place ahead. None stands where there is no such ring.
    """
    far = []
    for level in range(levels):
        low = None
        high = None
        for total, least, most in _rings(steps, level, level, (level,), (0, 0, 0)):
            if total > 0:
                high = WIDEST - least if high is None else min(high, WIDEST - least)
            if total < 0:
                low = -WIDEST - most if low is None else max(low, -WIDEST - most)
        far.append((low, high))
    return far


def _rings(steps, level, goal, met, sums):
    """(gap behind, least, greatest gap on the way) of each ring from the goal that meets no level twice."""
    total, least, most = sums
    found = []
    for start, one, other, end in steps:
        if start == level:
            further = total + one - other
            behind = (further, min(least, further), max(most, further))
            if end == goal:
                found.append(behind)
            elif end not in met:
                found.extend(_rings(steps, end, goal, met + (end,), behind))
    return found


def _any_far(far, layer):
    for level, gap in layer:
        low, high = far[level]
        if low is not None and gap <= low:
            return True
        if high is not None and gap >= high:
            return True
    return False


def _shortest(ahead, again):
    """The same row of bools, told by as few as can be."""
    ahead = list(ahead)
    again = _least_period(list(again))
    while ahead and ahead[-1] == again[-1]:
        ahead.pop()
        again = again[-1:] + again[:-1]
    return (tuple(ahead), tuple(again))


def _least_period(again):
    for many in range(1, len(again)):
        if len(again) % many == 0 and again[:many] * (len(again) // many) == again:
            return again[:many]
    return again


def is_parted(web, bound):
    """Whether some way parts at this bound."""
    told = need_web(web)
    if not is_below(bound, 10 ** 18 + 1):
        raise InvalidSize("bound")
    ahead, again = parted_bounds(told)
    if bound < len(ahead):
        return ahead[bound]
    return again[(bound - len(ahead)) % len(again)]


def bounds_hold(web, value):
    """Whether a value is a pair that tells of all bounds whether they part, however long."""
    told = need_web(web)
    if not isinstance(value, tuple) or len(value) != 2:
        return False
    ahead, again = value
    if not _are_bools(ahead) or not _are_bools(again) or not again:
        return False
    return _shortest(ahead, again) == parted_bounds(told)


def _are_bools(value):
    return isinstance(value, tuple) and all([isinstance(part, bool) for part in value])


def parting_way(web, bound):
    """The least of the shortest ways that part at this bound, a tuple of steps; None if there is none."""
    told = need_web(web)
    if not is_below(bound, 61):
        raise InvalidSize("bound")
    steps = told[1]
    came = {(0, 0, 0): ()}
    newest = [(0, 0, 0)]
    while newest:
        further = []
        for place in newest:
            for step in steps:
                behind = _behind(place, step)
                if behind is None:
                    continue
                within = (behind[1] <= bound) + (behind[2] <= bound)
                if within == 1:
                    return came[place] + (step,)
                if within == 2 and behind not in came:
                    came[behind] = came[place] + (step,)
                    further.append(behind)
        newest = further
    return None


def _behind(place, step):
    """(level, sums) behind this step; None if it begins elsewhere."""
    level, first, second = place
    start, one, other, end = step
    if start != level:
        return None
    return (end, first + one, second + other)


def evened(sizes, pairs):
    """The least sizes that are equal on each pair, none lesser than told."""
    if not is_sequence(sizes) or not all([is_below(size, 1000) for size in sizes]):
        raise InvalidSize("sizes")
    if not is_sequence(pairs) or not all([_is_pair(pair, len(sizes)) for pair in pairs]):
        raise InvalidSize("pairs")
    grown = list(sizes)
    while True:
        uneven = [pair for pair in pairs if grown[pair[0]] != grown[pair[1]]]
        if not uneven:
            return tuple(grown)
        for one, other in uneven:
            grown[one] = grown[other] = max(grown[one], grown[other])


def _is_pair(pair, many):
    return is_row(pair, 2) and is_below(pair[0], many) and is_below(pair[1], many)
