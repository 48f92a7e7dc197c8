"""Elders: whose state goes ahead in a meeting, where deeds do not commute, and which webs and runs go wrong."""

from houseslessties.books import deeds_of, heard_after, run_around
from houseslessties.errors import BadMachine, Refused, TooGreat, Untold
from houseslessties.joins import is_telling
from houseslessties.kinds import is_sequence, replaced
from houseslessties.machines import Machine, check_row, first_rows, need_state, orbit
from houseslessties.nets import DO, MEET, Net, any_steps, steps_fault, take
from houseslessties.webs import ring_paper

# Deed 0 counts to 2 and begins again, so that it shows how often it was done; deed 1 does nothing.
COUNTING = ((1, 2, 0), (0, 1, 2))
# Whichever of the two deeds is done first stays, so that their order shows.
FIRST_STAYS = ((1, 1, 2), (2, 1, 2))


def elder_paper(web):
    """None if there is no ring and no house is second in two ties; else a shortest ring, or such a house and ties."""
    ring = ring_paper(web)
    if ring is not None:
        return "ring", ring
    for house in range(web.houses):
        ties = [tie for tie, pair in enumerate(web.ties) if pair[1] == house]
        if len(ties) > 1:
            return "elders", house, ties[0], ties[1]
    return None


class ShownRows:
    """By house the acts that it shows, in their order."""

    def __init__(self, web):
        self.web = web
        self.acts = 0
        self.rows = ((),) * web.houses
        self.known = (0,) * len(web.ties)

    def do(self, house, deed):
        """The next act, whatever its deed, stands at the end of its house's row."""
        self.rows = replaced(self.rows, house, self.rows[house] + (self.acts,))
        self.acts += 1

    def meet(self, tie):
        """Behind the elder's row comes what the younger one's has more than behind their last meeting."""
        elder, younger = self.web.ties[tie]
        # With one elder alone nothing is put ahead of what the younger one had then.
        row = self.rows[elder] + self.rows[younger][self.known[tie]:]
        self.rows = replaced(replaced(self.rows, elder, row), younger, row)
        self.known = replaced(self.known, tie, len(row))


def shown_rows(web, steps):
    """By house the acts that it shows, in their order, on a web that has no paper."""
    if elder_paper(web) is not None:
        raise Refused(web)
    shown = ShownRows(web)
    for step in any_steps(web, steps):
        take(shown, step)
    return shown.rows


def order_of(machine, first, deeds, state, *, most):
    """Some order of these deeds that leads the first state to the other one; None if there is none."""
    need_state(machine, first)
    row = check_row(machine, deeds)
    need_state(machine, state)
    return found_order(machine, first, row, state, most)


def found_order(machine, first, row, state, most):
    """An order of the row's deeds that leads the first state to a state; None if there is none."""
    start = (tuple([row.count(deed) for deed in range(machine.deeds)]), first)
    end = ((0,) * machine.deeds, state)
    ways = {start: None}
    open_pairs = [start]
    # The pair that was found last goes on first, so that an order is found early where there are many.
    while open_pairs and end not in ways:
        pair = open_pairs.pop()
        for deed, behind in pairs_behind(machine, pair):
            if behind not in ways:
                ways[behind] = (pair, deed)
                open_pairs.append(behind)
        if len(ways) > most:
            raise TooGreat(most)
    return way_to(ways, end) if end in ways else None


def pairs_behind(machine, pair):
    """(deed, (how many of each deed are left behind it, state)) for each deed that is left."""
    left, here = pair
    behind = []
    for deed, many in enumerate(left):
        if many > 0:
            behind.append((deed, (replaced(left, deed, many - 1), machine.tables[deed][here])))
    return behind


def way_to(ways, end):
    """What was done, one behind another, on the way to where a search came."""
    way = []
    while ways[end] is not None:
        end, done = ways[end]
        way.append(done)
    return tuple(way[::-1])


def elder_run(web):
    """(tables, steps) that go wrong; None if no run of a machine that tells does on this web."""
    paper = elder_paper(web)
    if paper is None:
        return None
    if paper[0] == "ring":
        return COUNTING, run_around(web, paper[1], 0)
    one, other = paper[2:]
    # The second elder has put its deed ahead of the first one's, which then knows nothing of it.
    deeds = ((DO, web.ties[one][0], 0), (DO, web.ties[other][0], 1))
    return FIRST_STAYS, deeds + ((MEET, one), (MEET, other), (MEET, one))


def machine_of(value):
    """The machine of some tables; None for a value that is no tables."""
    try:
        return Machine(value)
    except BadMachine:
        return None


def elder_holds(web, value, *, most):
    """Whether a value is (tables, steps) of a machine that tells, and a run of it that goes wrong."""
    if not is_sequence(value, 2, 2):
        return False
    machine = machine_of(value[0])
    if machine is None or steps_fault(web, machine.deeds, value[1]) is not None or not is_telling(machine, 0):
        return False
    net = Net(machine, web, 0)
    for step in value[1]:
        try:
            take(net, step)
        except Untold:
            return len(net.steps) == len(value[1]) - 1
    return shows_wrong(net, most)


def shows_wrong(net, most):
    """Whether some house is in a state to which no order of the deeds that it heard leads."""
    deeds = deeds_of(net.steps)
    heard = heard_after(net.web, net.steps)[0]
    rows = [tuple(sorted([deeds[act] for act in acts])) for acts in heard]
    # Houses that heard the same deeds and are in the same state are looked at once.
    for row, state in sorted(set(list(zip(rows, net.states)))):
        if found_order(net.machine, net.first, row, state, most) is None:
            return True
    return False


def told_joins(machine, first):
    """By (archive, here, there) of the first state's orbit their join; those that are not told are not there."""
    joins = {}
    states = orbit(machine, first)
    for archive in states:
        for here in states:
            ends = list(first_rows(machine, (archive, here)))
            theres = [there for there, _ in ends]
            for there, end in ends:
                if theres.count(there) == 1:
                    joins[(archive, here, there)] = end
    return joins


def standings_behind(machine, web, joins, standing):
    """(step, standing behind it) for each step; None behind a meeting that is not told."""
    behind = []
    for tie, (one, other) in enumerate(web.ties):
        at = web.houses + tie
        joined = joins.get((standing[at], standing[one], standing[other]))
        met = None
        if joined is not None:
            met = replaced(replaced(replaced(standing, one, joined), other, joined), at, joined)
        behind.append(((MEET, tie), met))
    for house in range(web.houses):
        for deed, table in enumerate(machine.tables):
            behind.append(((DO, house, deed), replaced(standing, house, table[standing[house]])))
    return behind


def untold_run(machine, web, first, *, most):
    """Some of the fewest steps that end with a meeting that is not told; None if none do."""
    joins = told_joins(machine, need_state(machine, first))
    # A standing is here one tuple: the states of all houses, then the archives of all ties.
    start = (first,) * (web.houses + len(web.ties))
    ways = {start: None}
    queue = [start]
    at = 0
    while at < len(queue):
        here = queue[at]
        for step, behind in standings_behind(machine, web, joins, here):
            if behind is None:
                return way_to(ways, here) + (step,)
            if behind not in ways:
                ways[behind] = (here, step)
                queue.append(behind)
        if len(ways) > most:
            raise TooGreat(most)
        at += 1
    return None
