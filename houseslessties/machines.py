"""Machines: tables that tell where each deed leads each state, and rows of deeds."""

from houseslessties.errors import BadMachine, BadRow, NoDeed, NoState, TooGreat
from houseslessties.kinds import first_not_below, is_below, is_sequence

MOST_TABLES = 8
MOST_STATES = 12
MOST_ROW = 10000


class Machine:
    """By deed and by state the next state."""

    def __init__(self, tables):
        self.tables = checked_tables(tables)
        self.deeds = len(self.tables)
        self.states = len(self.tables[0])

    def __eq__(self, other):
        return isinstance(other, Machine) and self.tables == other.tables


def is_table(value, states):
    """Whether a value tells a next state for each of so many states."""
    return is_sequence(value, states, states) and first_not_below(value, states) is None


def checked_tables(value):
    """The tables as tuples."""
    if not is_sequence(value, 1, MOST_TABLES):
        raise BadMachine(-1)
    if not is_sequence(value[0], 1, MOST_STATES):
        raise BadMachine(0)
    states = len(value[0])
    for at, table in enumerate(value):
        if not is_table(table, states):
            raise BadMachine(at)
    return tuple([tuple(table) for table in value])


def need_state(machine, state):
    """The state itself."""
    if not is_below(state, machine.states):
        raise NoState(state)
    return state


def need_deed(machine, deed):
    """The deed itself."""
    if not is_below(deed, machine.deeds):
        raise NoDeed(deed)
    return deed


def row_fault(machine, value):
    """None for a row; else what BadRow tells of the value."""
    if not is_sequence(value, 0, MOST_ROW):
        return -1
    return first_not_below(value, machine.deeds)


def check_row(machine, value):
    """The row as a tuple."""
    at = row_fault(machine, value)
    if at is not None:
        raise BadRow(at)
    return tuple(value)


def moved(machine, state, row):
    """Where a row leads a state; both are known to be such."""
    for deed in row:
        state = machine.tables[deed][state]
    return state


def led(machine, state, row):
    """Where the row's deeds, in order, lead the state."""
    need_state(machine, state)
    return moved(machine, state, check_row(machine, row))


def first_rows(machine, states, out=None, most=None):
    """By where rows of at most `out` deeds lead some states (a tuple) the first such row, the first rows ahead."""
    rows = {states: ()}
    queue = [states]
    at = 0
    while at < len(queue) and (out is None or len(rows[queue[at]]) < out):
        here = queue[at]
        for deed, table in enumerate(machine.tables):
            ends = tuple([table[state] for state in here])
            if ends not in rows:
                rows[ends] = rows[here] + (deed,)
                queue.append(ends)
        if most is not None and len(queue) > most:
            raise TooGreat(most)
        at += 1
    return rows


def orbit(machine, state):
    """The states to which rows lead the state, ascending."""
    need_state(machine, state)
    return tuple(sorted([ends[0] for ends in first_rows(machine, (state,))]))
