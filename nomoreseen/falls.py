"""What is seen of a program on the machine some of whose modules have fallen."""

from nomoreseen.errors import Refused
from nomoreseen.switches import Switch, need_bare, need_deeds
from nomoreseen.turns import need_all_secrets, need_fallen, need_program


def fallen_sights(program, fallen, secrets, bare, script):
    """What is seen of the beginning, if it is one of the rest, and of each deed up to the end."""
    need_program(program)
    lost = need_fallen(program, fallen)
    told = need_all_secrets(program, lost, secrets)
    switch = Switch(program, lost, need_bare(bare))
    deeds = need_deeds(program, lost, script)
    machine = switch.at_first(told)
    seen = []
    if not switch.is_begun():
        sight, machine = switch.begins(machine)
        seen.append(sight)
    for at, deed in enumerate(deeds):
        if machine is None:
            raise Refused(at)
        sight, machine = switch.does(machine, deed)
        seen.append(sight)
    return tuple(seen)
