"""Webs: houses and the ties that join two of them each, parts and rings."""

from houseslessties.errors import BadWeb, NoHouse, NoTie, Refused
from houseslessties.kinds import first_not_below, is_below, is_sequence, is_whole

MOST_HOUSES = 12
MOST_TIES = 20


class Web:
    """So many houses, and by tie its two houses."""

    def __init__(self, houses, ties):
        self.ties = checked_ties(houses, ties)
        self.houses = houses

    def __eq__(self, other):
        return isinstance(other, Web) and self.houses == other.houses and self.ties == other.ties


def is_pair(value, houses):
    """Whether a value is a sequence of two unlike houses."""
    if not is_sequence(value, 2, 2) or first_not_below(value, houses) is not None:
        return False
    return value[0] != value[1]


def checked_ties(houses, ties):
    """The ties of so many houses as tuples."""
    if not is_whole(houses) or not 1 <= houses <= MOST_HOUSES or not is_sequence(ties, 0, MOST_TIES):
        raise BadWeb(-1)
    for at, pair in enumerate(ties):
        if not is_pair(pair, houses):
            raise BadWeb(at)
    return tuple([tuple(pair) for pair in ties])


def need_house(web, house):
    """The house itself."""
    if not is_below(house, web.houses):
        raise NoHouse(house)
    return house


def need_tie(web, tie):
    """The tie itself."""
    if not is_below(tie, len(web.ties)):
        raise NoTie(tie)
    return tie


def ways_on(web, house):
    """(tie, the other house) for each tie of a house."""
    return [(tie, pair[0] + pair[1] - house) for tie, pair in enumerate(web.ties) if house in pair]


def first_ways(web, house, barred):
    """By house that is joined with a house the ties of a shortest way there, not over the barred tie."""
    ways = {house: ()}
    queue = [house]
    at = 0
    while at < len(queue):
        here = queue[at]
        for tie, other in ways_on(web, here):
            if tie != barred and other not in ways:
                ways[other] = ways[here] + (tie,)
                queue.append(other)
        at += 1
    return ways


def part_of(web, house):
    """The part of a house, ascending."""
    need_house(web, house)
    return tuple(sorted(first_ways(web, house, None)))


def parts_of(web):
    """All parts, ascending."""
    parts = [part_of(web, house) for house in range(web.houses)]
    return tuple([part for house, part in enumerate(parts) if part[0] == house])


def is_part(web, value):
    """Whether a value is a sequence of a part's houses, ascending."""
    if not is_sequence(value, 1, web.houses) or first_not_below(value, web.houses) is not None:
        return False
    return tuple(value) == part_of(web, value[0])


def ties_in(web, part):
    """The ties of a part, ascending."""
    return [tie for tie, pair in enumerate(web.ties) if pair[0] in part]


def rings_of(web, part):
    """How many ties of a part can go so that it stays a part."""
    if not is_part(web, part):
        raise Refused(part)
    return len(ties_in(web, part)) - len(part) + 1


def is_forest(web):
    """Whether no part has a ring."""
    return sum([rings_of(web, part) for part in parts_of(web)]) == 0


def ring_over(web, tie):
    """The ties, ascending, of a shortest ring over a tie; None if there is none."""
    one, other = web.ties[tie]
    ways = first_ways(web, one, tie)
    if other not in ways:
        return None
    return tuple(sorted(ways[other] + (tie,)))


def ring_paper(web):
    """The ties, ascending, of a shortest ring; None for a forest."""
    rings = [ring_over(web, tie) for tie in range(len(web.ties))]
    found = [ring for ring in rings if ring is not None]
    return min(found, key=len, default=None)


def outward(web, house):
    """(tie, farther house) for each house that is joined with a house, the nearest ones ahead."""
    return [(way[-1], other) for other, way in first_ways(web, house, None).items() if way]
