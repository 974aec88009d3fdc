"""What fallen modules hear of the rest: plays by which two programs part, plans, and who must not fall together."""

from collections import deque

from nomoreseen.errors import InvalidLink, InvalidPlay, InvalidSize, InvalidState, Refused
from nomoreseen.rests import lawful_move, need_moves
from nomoreseen.states import need_state
from nomoreseen.turns import Rest, need_all_secrets, need_fallen, need_program
from nomoreseen.values import is_below, is_row, is_sequence, is_tuple, tuples_throughout

MOST_PAIRS = 3000


def rest_parting(program, other, fallen, secrets, others):
    """The least row of lawful moves, the fewest first, the last one answered unlike; None if there is none."""
    rests, first = _two_rests(program, other, fallen, secrets, others)
    parting, _ = _searched(rests, first)
    return parting


def rest_pairs(program, other, fallen, secrets, others):
    """All pairs of states that come; None if the two programs part."""
    rests, first = _two_rests(program, other, fallen, secrets, others)
    parting, pairs = _searched(rests, first)
    return None if parting is not None else tuple(pairs)


def rest_pairs_hold(program, other, fallen, secrets, others, value):
    """Whether these are pairs of states, all answered alike, from which just these come (any value)."""
    rests, first = _two_rests(program, other, fallen, secrets, others)
    if not tuples_throughout(value) or not all([_is_pair(rests, pair) for pair in value]):
        return False
    known = {pair: True for pair in value}
    return first in known and all([_leads_to(rests, pair, known) for pair in known])


def plans_of(program, fallen, secrets, moves):
    """For each fallen module, in the program's order, what it does at its moments along a play."""
    rest, state = _one_rest(program, fallen, secrets)
    plans = {at: [] for at in _fallen_numbers(rest)}
    for at, move in enumerate(need_moves(moves)):
        asked = None if state is None else lawful_move(rest, state, move)
        if asked is None:
            raise Refused(at)
        if state[2]:
            plans[rest.holder(state[0])].append(asked)
        _, state = rest.answered_by(state, asked)
    if state is not None and state[2]:
        plans[rest.holder(state[0])].append(())
    return tuple([tuple(plans[at]) for at in plans])


def plans_run(program, fallen, secrets, plans):
    """The answers if each fallen module goes by its plan."""
    rest, state = _one_rest(program, fallen, secrets)
    numbers = _fallen_numbers(rest)
    if not is_row(plans, len(numbers)):
        raise InvalidPlay(-1)
    todo = {}
    for at, plan in enumerate(plans):
        if not is_sequence(plan):
            raise InvalidPlay(at)
        todo[numbers[at]] = list(plan[::-1])
    answers = []
    while state is not None:
        move = _planned(todo[rest.holder(state[0])]) if state[2] else ("main",)
        asked = lawful_move(rest, state, move)
        if asked is None:
            break
        out, state = rest.answered_by(state, asked)
        answers.append(out)
    return tuple(answers)


def _planned(plan):
    """What a plan, told from its end on, has next; it no longer has it."""
    return plan.pop() if plan else ()


def least_hearing(program, secrets, others):
    """The least lots of modules that, fallen, part two secrets."""
    hearing = _hearing_lots(program, secrets, others)
    least = [lot for lot in hearing if not any([_is_within(one, lot) for one in hearing if one != lot])]
    return _named(program, least)


def greatest_deaf(program, secrets, others):
    """The greatest lots of modules that, fallen, do not part two secrets."""
    hearing = _hearing_lots(program, secrets, others)
    deaf = [lot for lot in _lots(program) if lot not in hearing]
    greatest = [lot for lot in deaf if not any([_is_within(lot, one) for one in deaf if one != lot])]
    return _named(program, greatest)


def _hearing_lots(program, secrets, others):
    """All lots, by numbers of modules, that hear; who falls, too, can go on as it was."""
    need_program(program)
    told, told_others = need_all_secrets(program, (), secrets), need_all_secrets(program, (), others)
    hearing = []
    for lot in _lots(program):
        is_known = len(lot) == len(program.modules) or any([_is_within(one, lot) for one in hearing])
        if is_known or any([told[at] != told_others[at] for at in lot]) or _parts(program, lot, told, told_others):
            hearing.append(lot)
    return hearing


def _parts(program, lot, secrets, others):
    if not lot:
        return False
    rest = Rest(program, [program.modules[at].name for at in lot])
    parting, _ = _searched((rest, rest), (rest.at_first(secrets), rest.at_first(others)))
    return parting is not None


def _lots(program):
    """All lots of numbers of modules, the fewest first."""
    lots = [()]
    for at in range(len(program.modules)):
        lots = lots + [lot + (at,) for lot in lots]
    return sorted(lots, key=len)


def _is_within(one, other):
    return all([at in other for at in one])


def _named(program, lots):
    return tuple([tuple([program.modules[at].name for at in lot]) for lot in sorted(lots)])


def _one_rest(program, fallen, secrets):
    need_program(program)
    lost = need_fallen(program, fallen)
    rest = Rest(program, lost)
    return (rest, rest.at_first(need_all_secrets(program, lost, secrets)))


def _fallen_numbers(rest):
    return [at for at, is_lost in enumerate(rest.lost) if is_lost]


def _two_rests(program, other, fallen, secrets, others):
    need_one_frame(program, other)
    rest, state = _one_rest(program, fallen, secrets)
    rest_other, state_other = _one_rest(other, fallen, others)
    return ((rest, rest_other), (state, state_other))


def need_one_frame(program, other):
    """Raises the error of what are no two programs of one frame."""
    need_program(program)
    need_program(other)
    if _frame_of(program) != _frame_of(other):
        raise InvalidLink(-1)


def _frame_of(program):
    doors = [
        (module.name, module.outs, [(entry[0], entry[2], entry[3]) for entry in module.entries])
        for module in program.modules
    ]
    return (program.book.told, doors, program.links, program.main)


def _searched(rests, first):
    """(the least row of lawful moves that parts or None, all pairs of states that were met)."""
    plays = {first: ()}
    queue = deque([first])
    while queue:
        pair = queue.popleft()
        for move in rests[0].moves_at(pair[0]):
            out, behind = rests[0].answered_by(pair[0], move)
            out_other, behind_other = rests[1].answered_by(pair[1], move)
            if out != out_other:
                return (plays[pair] + (move,), plays)
            met = (behind, behind_other)
            if behind is not None and met not in plays:
                plays[met] = plays[pair] + (move,)
                queue.append(met)
        if len(plays) > MOST_PAIRS:
            raise InvalidSize("states")
    return (None, plays)


def _leads_to(rests, pair, known):
    """Whether both are asked and answer alike at this pair, and stand at a known pair behind it."""
    moves = rests[0].moves_at(pair[0])
    if moves != rests[1].moves_at(pair[1]):
        return False
    for move in moves:
        out, behind = rests[0].answered_by(pair[0], move)
        out_other, behind_other = rests[1].answered_by(pair[1], move)
        if out != out_other or (behind is not None and (behind, behind_other) not in known):
            return False
    return True


def _is_pair(rests, value):
    """Whether this is a pair of states, one of each (any tuples)."""
    return is_tuple(value, 2) and _is_state(rests[0], value[0]) and _is_state(rests[1], value[1])


def _is_state(rest, value):
    if not is_tuple(value, 3) or not isinstance(value[2], bool) or not is_tuple(value[1], len(rest.lost)):
        return False
    pile, states, begun = value
    if not _is_way(rest, pile) or begun != rest.lost[rest.holder(pile)] or (pile and not begun):
        return False
    return all([
        states[at] is None if rest.lost[at] else _is_rest_state(rest, at, pile, states[at])
        for at in range(len(states))
    ])


def _is_way(rest, pile):
    """Whether these are links along which calls can wait."""
    if not isinstance(pile, tuple) or not all([is_below(link, len(rest.callers)) for link in pile]):
        return False
    return all([rest.callers[link] == rest.holder(pile[:at]) for at, link in enumerate(pile)])


def _is_rest_state(rest, at, pile, value):
    """Whether this is a state of a module whose frames wait at its links on the pile."""
    module = rest.program.modules[at]
    try:
        need_state(module, value)
    except InvalidState:
        return False
    places = [place for place, link in enumerate(pile) if rest.callers[link] == at]
    if len(places) != len(value[4]):
        return False
    return all([
        _waits_at(rest, module, pile, place, value[4][number]) for number, place in enumerate(places)
    ])


def _waits_at(rest, module, pile, place, frame):
    """Whether a frame waits at the call of the link at this place of the pile, in the entry that was called."""
    links = rest.program.links
    name = links[pile[place - 1]][3] if place > 0 else rest.program.main[1]
    entry, row, _ = frame
    out = links[pile[place]][1]
    return entry == module.entry_numbers[name] and module.steps[entry][row][2] == module.out_numbers[out]
