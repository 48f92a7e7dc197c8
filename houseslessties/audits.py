"""Audits: which houses and ties must be looked at to tell the truth of a part, and the truth that they tell."""

from houseslessties.books import Counts, harmless_period, led_times, round_ring
from houseslessties.errors import Refused
from houseslessties.joins import join
from houseslessties.kinds import is_ascending, is_sequence
from houseslessties.machines import first_rows, moved
from houseslessties.nets import DO, MEET, standing_after, steps_fault, truth_of
from houseslessties.rows import doubled_from, need_commuting, power_of
from houseslessties.webs import outward, part_of, ring_over, rings_of, ties_in

RUNS = "runs"


def lot_of(value, known):
    """The numbers that are looked at: those of the value, all that are known for None."""
    if value is None:
        return tuple(known)
    if not is_ascending(value, known):
        raise Refused(value)
    return tuple(value)


def looked_at(machine, web, first, house, houses, ties):
    """(houses, ties) that are looked at in a house's part."""
    need_commuting(machine, first)
    part = part_of(web, house)
    return lot_of(houses, part), lot_of(ties, ties_in(web, part))


def lone_deeds(machine, first):
    """The deeds that never lead back to where they lead the first state."""
    return [deed for deed in range(machine.deeds) if power_of(machine, first, (deed,))[0] > 1]


def audit_paper(machine, web, first, house, houses=None, ties=None):
    """None if what is looked at tells the truth of the house's part; else two runs which show that it does not."""
    seen, known = looked_at(machine, web, first, house, houses, ties)
    part = part_of(web, house)
    moving = [deed for deed, table in enumerate(machine.tables) if table[first] != first]
    unseen = [one for one in part if one not in seen]
    if unseen and moving:
        return RUNS, (), ((DO, unseen[0], moving[0]),)
    doubled = doubled_from(machine, first)
    unknown = [tie for tie in ties_in(web, part) if tie not in known]
    if unknown and doubled is not None:
        return runs_over(web, unknown[0], doubled)
    # A lone deed is a doubled and a moving one: so where there is one, all is looked at here.
    lone = lone_deeds(machine, first)
    if not lone or rings_of(web, part) == 0:
        return None
    return runs_around(machine, web, first, part, lone[0])


def runs_over(web, tie, deed):
    """Two runs that are unlike on one tie alone: one house heard of the deed, or both did it."""
    one, other = web.ties[tie]
    return RUNS, ((DO, one, deed), (MEET, tie)), ((DO, one, deed), (DO, other, deed))


def runs_around(machine, web, first, part, deed):
    """Two runs that are nowhere unlike: a deed is done once or a period oftener, and counted often everywhere."""
    index, period = power_of(machine, first, (deed,))
    start, meetings = many_times(web, part, index)
    meets = tuple([(MEET, tie) for tie in meetings])
    return RUNS, ((DO, start, deed),) + meets, ((DO, start, deed),) * (period + 1) + meets


def many_times(web, part, times):
    """(a house, meetings behind which all of its part counts a deed of that house so many times or more)."""
    rings = [ring_over(web, tie) for tie in ties_in(web, part)]
    ring = min([ring for ring in rings if ring is not None], key=len)
    start, order = round_ring(web, ring)
    counts = Counts(web, 1)
    counts.do(start, 0)
    meetings = []
    while counts.houses[start][0] < times:
        for tie in order:
            counts.meet(tie)
            meetings.append(tie)
    # Counts never fall: so from this house on all others get as many, and each tie then as many as its houses.
    return start, meetings + [tie for tie, _ in outward(web, start)] + ties_in(web, part)


def audit_holds(machine, web, first, house, houses, ties, value):
    """Whether a value is a paper which shows that what is looked at does not tell the truth."""
    lots = looked_at(machine, web, first, house, houses, ties)
    if not is_sequence(value, 3, 3) or value[0] != RUNS:
        return False
    runs = value[1:]
    if not all([steps_fault(web, machine.deeds, run) is None for run in runs]):
        return False
    one, other = [shown(machine, web, first, lots, run) for run in runs]
    return one == other and truth_of(machine, web, first, runs[0], house) != truth_of(
        machine, web, first, runs[1], house)


def shown(machine, web, first, lots, steps):
    """How the houses and ties that are looked at stand behind steps."""
    states, archives = standing_after(machine, web, first, steps)
    return [states[house] for house in lots[0]], [archives[tie] for tie in lots[1]]


def audit_state(machine, web, first, states, archives, house):
    """The truth of the house's part, from how all its houses and ties stand."""
    need_commuting(machine, first)
    part = part_of(web, house)
    if rings_of(web, part) == 0:
        return gathered(machine, web, states, archives, house)
    period = harmless_period(machine, first)
    if period == 0:
        raise Refused(house)
    rows = first_rows(machine, (first,))
    truth = first
    for one in part:
        truth = moved(machine, truth, rows[(states[one],)])
    # Behind these each act is done once and some whole periods more, which leads where once does.
    for tie in ties_in(web, part):
        truth = led_times(machine, truth, rows[(archives[tie],)], period - 1)
    return truth


def gathered(machine, web, states, archives, house):
    """The state of a house when all houses of its part without rings have been joined to it, the farthest ahead."""
    told = list(states)
    for tie, farther in reversed(outward(web, house)):
        nearer = sum(web.ties[tie]) - farther
        told[nearer] = join(machine, archives[tie], told[nearer], told[farther])
    return told[house]
