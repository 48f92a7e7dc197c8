"""Travellers: what they bring home beside their state, where three states do not tell a join."""

from houseslessties.errors import Refused
from houseslessties.kinds import is_below, is_number, is_sequence
from houseslessties.machines import first_rows, need_deed, need_state, orbit

MOST_THINGS = 5000


def need_limit(value):
    """The value itself, if it tells how many deeds may be done: a number, or None for any number of them."""
    if value is not None and not is_number(value):
        raise Refused(value)
    return value


def home_rows(machine, archive, home):
    """By state where the home may be the first row that leads it there."""
    need_state(machine, archive)
    rows = first_rows(machine, (archive,), need_limit(home))
    return {ends[0]: row for ends, row in rows.items()}


def home_states(machine, archive, *, home=None):
    """The states, ascending, where the home may be that did at most so many deeds."""
    return tuple(sorted(home_rows(machine, archive, home)))


def done_things(machine, archive, homes, out, most):
    """By where rows of at most `out` deeds lead each home state the first such row, the first rows ahead."""
    return first_rows(machine, homes, need_limit(out), most)


def counted_ends(machine, homes, archive, things):
    """By state how many of the things lead the archive there."""
    place = homes.index(archive)
    ends = [thing[place] for thing in things]
    return tuple([ends.count(state) for state in range(machine.states)])


def all_marks(machine, archive, *, home=None, out=None, most=MOST_THINGS):
    """By state how many marks travellers need that come home with it."""
    homes = home_states(machine, archive, home=home)
    return counted_ends(machine, homes, archive, done_things(machine, archive, homes, out, most))


def needed_marks(machine, archive, state, *, home=None, out=None, most=MOST_THINGS):
    """How many marks travellers need that come home with one state."""
    need_state(machine, archive)
    need_state(machine, state)
    return all_marks(machine, archive, home=home, out=out, most=most)[state]


def marks_paper(machine, archive, *, home=None, out=None, most=MOST_THINGS):
    """None if no state needs two marks; else a row of the home and two of travellers that show one which does."""
    ahead = home_rows(machine, archive, home)
    homes = tuple(sorted(ahead))
    place = homes.index(archive)
    seen = {}
    for thing, row in done_things(machine, archive, homes, out, most).items():
        if thing[place] in seen:
            parting = first_parting(seen[thing[place]][0], thing)
            return "rows", ahead[homes[parting]], seen[thing[place]][1], row
        seen[thing[place]] = (thing, row)
    return None


def first_parting(one, other):
    """The first place where two unlike things of one length part."""
    at = 0
    while one[at] == other[at]:
        at += 1
    return at


def enough_home(machine, archive, *, most=MOST_THINGS):
    """The least number of deeds of the home with which travellers need as many marks as with any number."""
    rows = home_rows(machine, archive, None)
    homes = tuple(sorted(rows))
    things = list(first_rows(machine, homes, None, most))
    home = 0
    while shown_things(things, homes, rows, home) < len(things):
        home += 1
    return home


def shown_things(things, homes, rows, home):
    """How many things are unlike at the home states to which rows of at most so many deeds lead."""
    places = [place for place, state in enumerate(homes) if len(rows[state]) <= home]
    return len({tuple([thing[place] for place in places]) for thing in things})


def marked_things(machine, archive, most):
    """By unlike thing, the home doing any number of deeds, (state, mark)."""
    homes = orbit(machine, archive)
    place = homes.index(archive)
    marks = {}
    given = [0] * machine.states
    for thing in first_rows(machine, homes, None, most):
        state = thing[place]
        marks[thing] = (state, given[state])
        given[state] += 1
    return marks


class Traveller:
    """Goes out with a copy of the archive, does deeds, and has at every moment its state and the least mark."""

    def __init__(self, machine, archive, *, most=MOST_THINGS):
        self.marks = marked_things(machine, archive, most)
        self.machine = machine
        self.archive = archive
        self.thing = orbit(machine, archive)

    def do(self, deed):
        """(state, mark) behind one deed more."""
        table = self.machine.tables[need_deed(self.machine, deed)]
        self.thing = tuple([table[state] for state in self.thing])
        return self.brought()

    def brought(self):
        """(state, mark) now."""
        return self.marks[self.thing]


def need_brought(machine, things, value):
    """The thing that a value, a state and a mark that some row has there, stands for."""
    if not is_sequence(value, 2, 2) or not is_below(value[0], machine.states) or not is_number(value[1]):
        raise Refused(value)
    # Only numbers come here: a bool would be found among the marks as the number that it is equal to.
    if tuple(value) not in things:
        raise Refused(value)
    return things[tuple(value)]


def things_by_mark(machine, archive, most):
    """By (state, mark) the unlike thing for which it stands."""
    return {mark: thing for thing, mark in marked_things(machine, archive, most).items()}


def come_home(machine, archive, here, brought, *, most=MOST_THINGS):
    """The home's state here led by the deeds of a traveller that brought a state and a mark."""
    things = things_by_mark(machine, archive, most)
    homes = orbit(machine, archive)
    need_state(machine, here)
    if here not in homes:
        raise Refused(here)
    return need_brought(machine, things, brought)[homes.index(here)]


def brought_behind(machine, archive, one, other, *, most=MOST_THINGS):
    """(state, mark) of one traveller's deeds and another one's behind them."""
    marks = marked_things(machine, archive, most)
    things = {mark: thing for thing, mark in marks.items()}
    homes = orbit(machine, archive)
    ahead = need_brought(machine, things, one)
    behind = need_brought(machine, things, other)
    return marks[tuple([behind[homes.index(state)] for state in ahead])]
