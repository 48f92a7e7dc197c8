"""Whether deeds commute, and what comes of rows that are done again and again."""

from houseslessties.errors import Uncommuting
from houseslessties.machines import check_row, moved, need_state, orbit


def commuting_paper(machine, state):
    """None if deeds commute from the state on; else the least (state, one, other) where they do not."""
    for at in orbit(machine, state):
        for one in range(machine.deeds):
            for other in range(machine.deeds):
                if moved(machine, at, (one, other)) != moved(machine, at, (other, one)):
                    return at, one, other
    return None


def need_commuting(machine, state):
    """The machine, if its deeds commute from the state on."""
    paper = commuting_paper(machine, state)
    if paper is not None:
        at, one, other = paper
        raise Uncommuting(at, one, other)
    return machine


def power_of(machine, state, row):
    """(index, period): behind index times the row, each period times more lead back."""
    need_state(machine, state)
    deeds = check_row(machine, row)
    times = {}
    while state not in times:
        times[state] = len(times)
        state = moved(machine, state, deeds)
    return times[state], len(times) - times[state]


def doubled_from(machine, state):
    """The least deed that leads the state elsewhere when done twice than when done once; None if there is none."""
    for deed in range(machine.deeds):
        if moved(machine, state, (deed, deed)) != moved(machine, state, (deed,)):
            return deed
    return None
