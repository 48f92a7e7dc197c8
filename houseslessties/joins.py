"""Joins of three states, and which machines tell them."""

from houseslessties.errors import Untold
from houseslessties.kinds import is_below, is_sequence, is_whole
from houseslessties.machines import first_rows, moved, need_state, orbit, row_fault

MOST_PAPER_ROW = 200


def join(machine, archive, here, there):
    """The state here led by any row that leads the archive there."""
    need_states(machine, (archive, here, there))
    return joined(machine, archive, here, there)


def need_states(machine, states):
    """Each of some values is a state."""
    for state in states:
        need_state(machine, state)


def joined(machine, archive, here, there):
    """The join of three that are known to be states."""
    ends = [end for at, end in first_rows(machine, (archive, here)) if at == there]
    if len(ends) != 1:
        raise Untold(archive, here, there)
    return ends[0]


def untold_rows(machine, archive, here, there):
    """None if the join is told; else why it is not."""
    need_states(machine, (archive, here, there))
    found = first_rows(machine, (archive, here))
    rows = [row for ends, row in found.items() if ends[0] == there]
    if not rows:
        return ("none",)
    if len(rows) == 1:
        return None
    return "rows", rows[0], rows[1]


def parting_rows(machine, archive, here):
    """Two rows that lead the archive to one state, the state here to unlike ones; None if none do."""
    seen = {}
    for ends, row in first_rows(machine, (archive, here)).items():
        if ends[0] in seen:
            return seen[ends[0]], row
        seen[ends[0]] = row
    return None


def telling_paper(machine, state):
    """None if the machine tells from the state; else a join that is untold behind one deed."""
    # If no join is untold behind one deed, none is behind more: each deed's end is the next one's archive.
    for archive in orbit(machine, state):
        for deed in range(machine.deeds):
            rows = parting_rows(machine, archive, machine.tables[deed][archive])
            if rows is not None:
                return "untold", archive, deed, rows[0], rows[1]
    return None


def is_telling(machine, state):
    """Whether the machine tells from the state."""
    return telling_paper(machine, state) is None


def is_paper_row(machine, value):
    """Whether a value is a row that may stand in a paper."""
    return is_sequence(value, 0, MOST_PAPER_ROW) and row_fault(machine, value) is None


def telling_holds(machine, state, value):
    """Whether a value is a paper which shows that the machine does not tell from the state."""
    archives = orbit(machine, state)
    if not is_sequence(value, 5, 5):
        return False
    word, archive, deed, one, other = value
    if word != "untold" or not is_whole(archive) or archive not in archives:
        return False
    if not is_below(deed, machine.deeds) or not is_paper_row(machine, one) or not is_paper_row(machine, other):
        return False
    here = machine.tables[deed][archive]
    return moved(machine, archive, one) == moved(machine, archive, other) and (
        moved(machine, here, one) != moved(machine, here, other))


def joined_all(machine, archive, states):
    """The archive joined, one behind another, with each of the states."""
    here = need_state(machine, archive)
    for there in states:
        here = joined(machine, archive, here, need_state(machine, there))
    return here
