"""Rests: at which numbers counters rest, and behind how many meetings."""

from math import gcd

from houseslessties.books import Counts
from houseslessties.counters import counted_by, need_modulus
from houseslessties.errors import Refused
from houseslessties.kinds import first_not_below, is_number, is_sequence, is_whole
from houseslessties.webs import first_ways, is_forest, need_house, outward, part_of, parts_of, rings_of


def is_rest(net):
    """Whether no meeting changes anything."""
    return is_alike(net.web, net.states, net.archives)


def is_alike(web, houses, ties):
    """Whether each tie and its two houses are alike."""
    return all([houses[one] == houses[other] == ties[tie] for tie, (one, other) in enumerate(web.ties)])


def check_total(modulus, rings, total):
    """What is passed of a part and its book is of the kinds that can be."""
    need_modulus(modulus)
    if not is_number(rings):
        raise Refused(rings)
    if not is_whole(total):
        raise Refused(total)


def rest_values(modulus, rings, total):
    """(first, step) of the numbers at which a part with so many rings and this book can rest; None if none are."""
    check_total(modulus, rings, total)
    if modulus == 0:
        return whole_rests(1 - rings, total)
    common = gcd(1 - rings, modulus)
    if total % common != 0:
        return None
    step = modulus // common
    return total // common * inverse_by((1 - rings) // common, step) % step, step


def whole_rests(times, total):
    """(first, step) of the whole numbers that, taken so many times, are the total; None if none are."""
    if times == 0:
        return (0, 1) if total == 0 else None
    return (total // times, 0) if total % times == 0 else None


def inverse_by(number, modulus):
    """What makes 1 of a number that has no divisor in common with the modulus, counted by it."""
    one, other = modulus, number % modulus
    taken, taking = 0, 1
    while other != 0:
        taken, taking = taking, taken - one // other * taking
        one, other = other, one % other
    return taken % modulus


def are_right(modulus, rings, total):
    """Whether each number at which such a part can rest is the total."""
    rests = rest_values(modulus, rings, total)
    return rests is None or rests == (counted_by(modulus, total), modulus)


def sweep(web, house):
    """An order of meetings, from the farthest houses to a house and back, that leads its part to rest."""
    if rings_of(web, part_of(web, house)) > 0:
        raise Refused(web)
    ties = [tie for tie, _ in outward(web, house)]
    # The last meeting on the way in is the first one on the way out.
    return tuple(ties[::-1] + ties[1:])


def check_turns(web, value):
    """An order in which each tie stands once, as a tuple."""
    many = len(web.ties)
    if not is_sequence(value, many, many) or first_not_below(value, many) is not None:
        raise Refused(value)
    if len(set(value)) < many:
        raise Refused(value)
    return tuple(value)


def turns_heard(web, turns, house, other):
    """Behind how many meetings in turn a house's deed is heard at another one; None if they are not joined."""
    order = check_turns(web, turns)
    need_house(web, house)
    need_house(web, other)
    if other not in part_of(web, house):
        return None
    heard = [one == house for one in range(web.houses)]
    meetings = 0
    while not heard[other]:
        one, two = web.ties[order[meetings % len(order)]]
        heard[one] = heard[two] = heard[one] or heard[two]
        meetings += 1
    return meetings


def need_forest(web):
    """The web itself, if it has no ring."""
    if not is_forest(web):
        raise Refused(web)
    return web


def own_counts(web):
    """Counts that are 1 for each house and tie at itself alone: what meetings make of them they make of any."""
    many = web.houses + len(web.ties)
    own = [tuple([int(at == one) for at in range(many)]) for one in range(many)]
    counts = Counts(web, many)
    counts.houses = tuple(own[:web.houses])
    counts.ties = tuple(own[web.houses:])
    return counts


def rest_after(web, turns):
    """Behind how many meetings in turn all parts are at rest, whatever states and archives were."""
    order = check_turns(need_forest(web), turns)
    counts = own_counts(web)
    meetings = 0
    while not is_alike(web, counts.houses, counts.ties):
        counts.meet(order[meetings % len(order)])
        meetings += 1
    return meetings


def ways_from_end(web, house):
    """By house the way from an end of a longest way in the part of a house, the nearest houses ahead."""
    # What lies farthest from any house of a part without rings is an end of a longest way.
    end = list(first_ways(web, house, None))[-1]
    return first_ways(web, end, None)


def longest_way(web):
    """How many ties the longest of all ways between two houses has."""
    need_forest(web)
    return max([len(way) for part in parts_of(web) for way in ways_from_end(web, part[0]).values()])


def fewest_rounds(web):
    """The least number of whole rounds behind which some order has led all to rest."""
    longest = longest_way(web)
    return 0 if longest == 0 else longest // 2 + 1


def ties_off(web, house, barred):
    """The ties that lie an odd number of ties away from a house, counted from 1, not over the barred tie."""
    return [way[-1] for way in first_ways(web, house, barred).values() if len(way) % 2 == 1]


def odd_ties(web, part):
    """The ties of a part that lie an odd number of ties away from the middle of its longest way."""
    ways = ways_from_end(web, part[0])
    way = list(ways.values())[-1]
    middle = len(way) // 2
    house = [other for other, ties in ways.items() if ties == way[:middle]][0]
    if len(way) % 2 == 0:
        return ties_off(web, house, None)
    tie = way[middle]
    return ties_off(web, house, tie) + ties_off(web, sum(web.ties[tie]) - house, tie)


def best_turns(web):
    """An order of all ties with which the fewest rounds are enough."""
    need_forest(web)
    odd = [tie for part in parts_of(web) for tie in odd_ties(web, part)]
    return tuple(odd + [tie for tie in range(len(web.ties)) if tie not in odd])
