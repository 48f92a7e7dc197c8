"""The orbit of a state as a table of its own, where the machine tells from it."""

from houseslessties.errors import Refused
from houseslessties.joins import is_telling, join
from houseslessties.machines import need_state, orbit


def told_orbit(machine, state):
    """The orbit of a state from which the machine tells."""
    if not is_telling(machine, state):
        raise Refused(state)
    return orbit(machine, state)


def orbit_table(machine, state):
    """The orbit, and by index here and index there the join with the state as archive."""
    states = told_orbit(machine, state)
    return states, tuple([join_row(machine, state, here, states) for here in states])


def join_row(machine, state, here, states):
    """The joins of one state here with some states there."""
    return tuple([join(machine, state, here, there) for there in states])


def is_exchanging(machine, state):
    """Whether the table is the same with here and there exchanged."""
    table = orbit_table(machine, state)[1]
    return table == tuple(zip(*table))


def group_paper(machine, state):
    """None if rows lead each state of the orbit back to the state; else the least one that none lead back."""
    for one in told_orbit(machine, state):
        if state not in orbit(machine, one):
            return "lost", one
    return None


def inverse_of(machine, state, one):
    """The state of the orbit whose join there, with one here, is the state itself."""
    states = told_orbit(machine, state)
    need_state(machine, one)
    if one not in states:
        raise Refused(one)
    joins = join_row(machine, state, one, states)
    if state not in joins:
        raise Refused(one)
    return states[joins.index(state)]


def turned_join(machine, state, archive, here, there):
    """The state here, the inverse of the archive and the state there, joined one behind another."""
    inverse = inverse_of(machine, state, archive)
    need_state(machine, here)
    need_state(machine, there)
    return join(machine, state, join(machine, state, here, inverse), there)
