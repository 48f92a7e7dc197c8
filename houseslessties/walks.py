"""Audits on foot: walks that read houses while deeds go on, and what they show."""

from houseslessties.books import Counts, deeds_of, led_counts
from houseslessties.errors import BadSteps, Refused
from houseslessties.kinds import is_below, is_sequence
from houseslessties.machines import MOST_TABLES
from houseslessties.nets import DO, MEET, MOST_STEPS, is_step, standing_after, take
from houseslessties.rows import need_commuting, power_of
from houseslessties.webs import ways_on

READ = "read"


def is_read(web, value):
    """Whether a value is the reading of a house."""
    return is_sequence(value, 2, 2) and value[0] == READ and is_below(value[1], web.houses)


def walk_fault(web, deeds, value):
    """None for a walk with so many deeds; else what BadSteps tells of the value."""
    if not is_sequence(value, 0, MOST_STEPS):
        return -1
    read = []
    for at, pace in enumerate(value):
        if is_read(web, pace) and pace[1] not in read:
            read.append(pace[1])
        elif not is_step(web, deeds, pace):
            return at
    return None


def walk_of(web, deeds, value):
    """The walk as tuples."""
    at = walk_fault(web, deeds, value)
    if at is not None:
        raise BadSteps(at)
    return tuple([tuple(pace) for pace in value])


def check_walk(web, value):
    """The walk with any machine's deeds as tuples."""
    return walk_of(web, MOST_TABLES, value)


def read_ahead(paces):
    """By pace the houses that were read ahead of it."""
    found = []
    read = ()
    for pace in paces:
        found.append(read)
        if pace[0] == READ:
            read = read + (pace[1],)
    return found


def houses_read(paces):
    """The houses that are read, in their order."""
    return [pace[1] for pace in paces if pace[0] == READ]


def unread_ends(web, pace, read):
    """The house that was not read, of a meeting whose other house was; empty for any other pace."""
    if pace[0] != MEET:
        return []
    unread = [house for house in web.ties[pace[1]] if house not in read]
    return unread if len(unread) == 1 else []


def crossings_of(web, paces):
    """The ascending indices of the crossings."""
    ahead = read_ahead(paces)
    return [at for at, pace in enumerate(paces) if unread_ends(web, pace, ahead[at])]


def crossings(web, walk):
    """The ascending indices of the meetings of whose houses just one has been read."""
    return tuple(crossings_of(web, check_walk(web, walk)))


def unread_acts(web, walk):
    """The ascending acts that were done at a house that was not read yet."""
    paces = check_walk(web, walk)
    unread = [pace[1] not in read for pace, read in zip(paces, read_ahead(paces)) if pace[0] == DO]
    return tuple([act for act, is_unread in enumerate(unread) if is_unread])


def with_more(sums, counts, times):
    """By act a sum and so many times a count."""
    return tuple([total + times * count for total, count in zip(sums, counts)])


def ties_read(web, house, read):
    """The ties that are read with a house: those that join it with houses read ahead of it."""
    return [tie for tie, other in ways_on(web, house) if other in read]


def sums_read(web, paces):
    """By act the sum of its counts in houses as they were read, less that in ties."""
    counts = Counts(web, len(deeds_of(paces)))
    sums = (0,) * len(deeds_of(paces))
    for pace, read in zip(paces, read_ahead(paces)):
        if pace[0] == READ:
            sums = with_more(sums, counts.houses[pace[1]], 1)
            for tie in ties_read(web, pace[1], read):
                sums = with_more(sums, counts.ties[tie], -1)
        else:
            take(counts, pace)
    return sums


def walked_counts(web, walk):
    """By act the sum of its counts in what was read of houses, less that in what was read of ties."""
    return sums_read(web, check_walk(web, walk))


def crossed_counts(web, walk):
    """By act what crossings took: the sum of its counts in the house that is not read, less those in the tie."""
    paces = check_walk(web, walk)
    counts = Counts(web, len(deeds_of(paces)))
    sums = (0,) * len(deeds_of(paces))
    for pace, read in zip(paces, read_ahead(paces)):
        for house in unread_ends(web, pace, read):
            sums = with_more(with_more(sums, counts.houses[house], 1), counts.ties[pace[1]], -1)
        if pace[0] != READ:
            take(counts, pace)
    return sums


def careful_walk(web, walk):
    """The walk with a read of the unread house ahead of each crossing."""
    careful = []
    read = []
    for pace in check_walk(web, walk):
        houses = [pace[1]] if pace[0] == READ else unread_ends(web, pace, read)
        for house in houses:
            if house not in read:
                careful.append((READ, house))
                read.append(house)
        if pace[0] != READ:
            careful.append(pace)
    return tuple(careful)


def houses_of(web, step):
    """The houses of a step: the one that does the deed, or both that meet."""
    return web.ties[step[1]] if step[0] == MEET else (step[1],)


def cut(web, paces, walk):
    """The steps of a whole walk without crossings whose houses are not read yet; `walk` as it was passed."""
    if len(houses_read(paces)) < web.houses or crossings_of(web, paces):
        raise Refused(walk)
    steps = [(pace, read) for pace, read in zip(paces, read_ahead(paces)) if pace[0] != READ]
    return tuple([step for step, read in steps if houses_of(web, step)[0] not in read])


def cut_run(web, walk):
    """The steps that are left of a whole walk without crossings, without those of houses that are read already."""
    return cut(web, check_walk(web, walk), walk)


def walked_standing(machine, web, first, walk):
    """(states by house, archives by tie) as read on a whole walk without crossings."""
    need_commuting(machine, first)
    paces = walk_of(web, machine.deeds, walk)
    # Nothing reaches a house that was not read from one that was: so what is read is what the cut run leaves.
    return standing_after(machine, web, first, cut(web, paces, walk))


def walked_state(machine, web, first, walk):
    """The first state led by each act's deed as often as its walked count tells, below 0 undoing it."""
    need_commuting(machine, first)
    periods = [power_of(machine, first, (deed,)) for deed in range(machine.deeds)]
    if max([index for index, _ in periods]) > 0:
        raise Refused(first)
    paces = walk_of(web, machine.deeds, walk)
    if len(houses_read(paces)) < web.houses:
        raise Refused(walk)
    deeds = deeds_of(paces)
    times = [count % periods[deed][1] for deed, count in zip(deeds, sums_read(web, paces))]
    return led_counts(machine, first, deeds, times)
