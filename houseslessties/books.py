"""Books: how often each deed is counted in houses and on ties, and which runs count it twice."""

from math import gcd, lcm

from houseslessties.errors import Refused
from houseslessties.kinds import is_number, is_sequence, replaced
from houseslessties.machines import MOST_TABLES, check_row, moved, need_state
from houseslessties.nets import DO, MEET, any_steps, check_steps, take
from houseslessties.rows import doubled_from, need_commuting, power_of
from houseslessties.webs import need_house, ring_paper


def less_tie(here, there, between):
    """By act the sum of two houses' counts less the tie's."""
    return tuple([one + other - tie for one, other, tie in zip(here, there, between)])


class Counts:
    """By house and by tie how often each act is counted so far."""

    def __init__(self, web, acts):
        self.web = web
        self.deeds = ()
        self.houses = ((0,) * acts,) * web.houses
        self.ties = ((0,) * acts,) * len(web.ties)

    def do(self, house, deed):
        """The next act is counted once in its house."""
        act = len(self.deeds)
        self.deeds = self.deeds + (deed,)
        self.houses = replaced(self.houses, house, replaced(self.houses[house], act, 1))

    def meet(self, tie):
        """Both houses and the tie get the sum of both houses' counts less the tie's."""
        one, other = self.web.ties[tie]
        joined = less_tie(self.houses[one], self.houses[other], self.ties[tie])
        self.houses = replaced(replaced(self.houses, one, joined), other, joined)
        self.ties = replaced(self.ties, tie, joined)


def deeds_of(steps):
    """By act its deed."""
    return tuple([step[2] for step in steps if step[0] == DO])


def counted(web, steps):
    """The counts behind steps that were checked."""
    counts = Counts(web, len(deeds_of(steps)))
    for step in steps:
        take(counts, step)
    return counts


def act_deeds(web, steps):
    """By act its deed."""
    return deeds_of(any_steps(web, steps))


def counts_after(web, steps):
    """(by house, by tie) the counts by act."""
    counts = counted(web, any_steps(web, steps))
    return counts.houses, counts.ties


def counted_acts(counts):
    """The ascending acts that are counted at all."""
    return tuple([act for act, many in enumerate(counts) if many > 0])


def heard_after(web, steps):
    """(by house, by tie) the ascending acts that were heard."""
    counts = counted(web, any_steps(web, steps))
    return tuple([counted_acts(row) for row in counts.houses]), tuple([counted_acts(row) for row in counts.ties])


def led_times(machine, state, row, times):
    """The state led by a row that is done so many times."""
    index, period = power_of(machine, state, row)
    if not is_number(times):
        raise Refused(times)
    # Behind index times all goes round: so a number of any size takes few rows.
    few = times if times < index else index + (times - index) % period
    for _ in range(few):
        state = moved(machine, state, row)
    return state


def led_counts(machine, first, deeds, counts):
    """The first state led by a row's deeds, each as often as its count."""
    state = need_state(machine, first)
    row = check_row(machine, deeds)
    if not is_sequence(counts, len(row), len(row)) or not all([is_number(count) for count in counts]):
        raise Refused(counts)
    for deed, count in zip(row, counts):
        state = led_times(machine, state, (deed,), count)
    return state


def plain_state(machine, web, first, steps, house):
    """The first state led by what the house heard, each act once."""
    need_state(machine, first)
    counts = counted(web, check_steps(machine, web, steps))
    need_house(web, house)
    return moved(machine, first, [counts.deeds[act] for act in counted_acts(counts.houses[house])])


def twice_act(counts, tie):
    """The least act that a meeting over a tie would count twice; None if there is none."""
    one, other = counts.web.ties[tie]
    for act, many in enumerate(counts.ties[tie]):
        if counts.houses[one][act] > many and counts.houses[other][act] > many:
            return act
    return None


def first_twice(web, steps):
    """(index, act) of the first meeting that counts twice, and its least such act; None if there is none."""
    checked = any_steps(web, steps)
    counts = Counts(web, len(deeds_of(checked)))
    for index, step in enumerate(checked):
        act = twice_act(counts, step[1]) if step[0] == MEET else None
        if act is not None:
            return index, act
        take(counts, step)
    return None


def safe_ties(web, steps):
    """The ties, ascending, over which a meeting would not count twice."""
    counts = counted(web, any_steps(web, steps))
    return tuple([tie for tie in range(len(web.ties)) if twice_act(counts, tie) is None])


def round_ring(web, ring):
    """(a house of a ring, its ties in the order in which they lead from there around)."""
    start = web.ties[ring[0]][0]
    here = start
    order = []
    while len(order) < len(ring):
        left = [tie for tie in ring if here in web.ties[tie] and tie not in order]
        here = sum(web.ties[left[0]]) - here
        order.append(left[0])
    return start, order


def run_around(web, ring, deed):
    """A deed done at a house of a ring, and the meetings around the ring."""
    start, order = round_ring(web, ring)
    return ((DO, start, deed),) + tuple([(MEET, tie) for tie in order])


def twice_run(web):
    """Some of the fewest steps that end with a meeting that counts twice; None for forests."""
    ring = ring_paper(web)
    if ring is None:
        return None
    return run_around(web, ring, 0)


def wrong_run(machine, web, first):
    """Some of the fewest steps behind which a house does not show its plain state; None if there are none."""
    need_commuting(machine, first)
    ring = ring_paper(web)
    deed = doubled_from(machine, first)
    if ring is None or deed is None:
        return None
    return run_around(web, ring, deed)


def harmless_period(machine, first):
    """How far the harmless counts lie apart; 0 if 1 alone is harmless."""
    need_commuting(machine, first)
    apart = 1
    # Where deeds commute, a row does nothing more when done again if none of its deeds does.
    for deed in range(machine.deeds):
        index, period = power_of(machine, first, (deed,))
        if index > 1:
            return 0
        apart = lcm(apart, period)
    return apart


def run_harm(web, steps):
    """The greatest number that divides what each house counts too often of each deed; 0 if that is nothing."""
    counts = counted(web, any_steps(web, steps))
    harm = 0
    for row in counts.houses:
        for deed in range(MOST_TABLES):
            acts = [act for act in counted_acts(row) if counts.deeds[act] == deed]
            harm = gcd(harm, sum([row[act] - 1 for act in acts]))
    return harm
