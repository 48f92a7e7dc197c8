"""Meetings that break: two sides with a copy of the archive each, and which machines need more than that."""

from houseslessties.errors import Refused
from houseslessties.joins import joined
from houseslessties.kinds import is_below, is_sequence, is_whole, replaced
from houseslessties.machines import first_rows, moved, need_deed, orbit, row_fault
from houseslessties.rows import doubled_from, need_commuting

MOST_NUMBERS = 3
SILENT = "silent"


def need_side(value, sides):
    """The side itself, one of the first sides."""
    if not is_below(value, sides):
        raise Refused(value)
    return value


def need_bool(value):
    """The value itself, if it is a bool."""
    if not isinstance(value, bool):
        raise Refused(value)
    return value


class Twin:
    """Two sides of a tie, each with its state, a copy of the archive, a mark, and what it has kept of the other one."""

    def __init__(self, machine, first, *, numbers=2, keeps=True):
        self.machine = need_commuting(machine, first)
        if not is_whole(numbers) or not 1 <= numbers <= MOST_NUMBERS:
            raise Refused(numbers)
        self.keeps = need_bool(keeps)
        self.first = first
        self.numbers = numbers
        self.states = (first, first)
        self.copies = (first, first)
        self.marks = (0, 0)
        self.kept = (None, None)

    def do(self, side, deed):
        """The side's state behind its deed."""
        need_side(side, 2)
        table = self.machine.tables[need_deed(self.machine, deed)]
        self.states = replaced(self.states, side, table[self.states[side]])
        return self.states[side]

    def ahead(self):
        """The side that has heard a meeting that broke; None if none has, as far as copies and marks tell."""
        if self.numbers == 1:
            return None if self.copies[0] == self.copies[1] else 0
        for side in range(2):
            if self.marks[side] == self.mark_behind(1 - side):
                return side
        return None

    def mark_behind(self, side):
        """The mark of a side and 1."""
        return (self.marks[side] + 1) % self.numbers

    def base(self, ahead):
        """Over which state a meeting joins."""
        if ahead is None:
            return self.copies[0]
        return self.kept[ahead] if self.keeps else self.copies[1 - ahead]

    def meet(self, *, side=0, whole=True):
        """The state that the told side, and in a whole meeting then the other one, has joined."""
        # Whoever may be ahead must be told by the marks: two numbers tell it of one side alone.
        need_side(side, 2 if self.numbers == MOST_NUMBERS else 1)
        need_bool(whole)
        ahead = self.ahead()
        state = joined(self.machine, self.base(ahead), self.states[0], self.states[1])
        if ahead != side:
            self.marks = replaced(self.marks, side, self.mark_behind(1 - side))
        if self.keeps:
            self.kept = replaced(self.kept, side, self.states[1 - side])
        self.join_side(side, state)
        if whole:
            self.join_side(1 - side, state)
            self.marks = (self.marks[side], self.marks[side])
        return state

    def join_side(self, side, state):
        """A side has the state joined as its state and its copy."""
        self.states = replaced(self.states, side, state)
        self.copies = replaced(self.copies, side, state)


def silent_break(machine, first):
    """None if no two unlike states of the orbit lead to one another; else rows from one of them there and back."""
    need_commuting(machine, first)
    for archive in orbit(machine, first):
        for ends, there in first_rows(machine, (archive,)).items():
            back = first_rows(machine, ends)
            if ends[0] != archive and (archive,) in back:
                return SILENT, archive, back[(archive,)], there
    return None


def silent_holds(machine, first, value):
    """Whether a value is such a state and rows there and back."""
    archives = orbit(need_commuting(machine, first), first)
    if not is_sequence(value, 4, 4):
        return False
    word, archive, here, there = value
    if word != SILENT or not is_whole(archive) or archive not in archives:
        return False
    if row_fault(machine, here) is not None or row_fault(machine, there) is not None:
        return False
    end = moved(machine, archive, there)
    return end != archive and moved(machine, end, here) == archive


def doubled_deed(machine, first):
    """The least (state of the orbit, deed) from which the deed done twice leads elsewhere than once; None for none."""
    need_commuting(machine, first)
    for state in orbit(machine, first):
        deed = doubled_from(machine, state)
        if deed is not None:
            return state, deed
    return None
