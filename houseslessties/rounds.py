"""Ways and rounds: how often one deed is counted behind meetings, and behind an order of them again and again."""

from houseslessties.counters import MOST_MODULUS, MOST_NUMBER, counted_by
from houseslessties.errors import BadSteps, Refused, TooGreat
from houseslessties.kinds import first_not_below, is_below, is_sequence
from houseslessties.webs import Web, need_house, part_of, rings_of

MOST_MEETINGS = 10000
# So many rounds at most without a modulus: counts may double with each meeting.
MOST_ROUNDS = 400


def check_meetings(web, value):
    """The meetings as a tuple of ties."""
    if not is_sequence(value, 0, MOST_MEETINGS):
        raise BadSteps(-1)
    at = first_not_below(value, len(web.ties))
    if at is not None:
        raise BadSteps(at)
    return tuple(value)


def one_at(web, place):
    """Counts, of all houses and then of all ties, that are 1 at one place and 0 elsewhere."""
    return tuple([int(at == place) for at in range(web.houses + len(web.ties))])


def counts_behind(web, counts, meetings, modulus):
    """The counts, of all houses and then of all ties, behind meetings."""
    numbers = list(counts)
    for tie in meetings:
        one, other = web.ties[tie]
        at = web.houses + tie
        joined = counted_by(modulus, numbers[one] + numbers[other] - numbers[at])
        numbers[one] = numbers[other] = numbers[at] = joined
    return tuple(numbers)


def parted(web, counts):
    """(by house, by tie) the counts."""
    return counts[:web.houses], counts[web.houses:]


def way_counts(web, house, meetings):
    """(by house, by tie) how often a deed done at a house is counted behind meetings."""
    need_house(web, house)
    ties = check_meetings(web, meetings)
    return parted(web, counts_behind(web, one_at(web, house), ties, 0))


def gone_ways(web, house, there, meetings, *, most):
    """The ways from a house to another one that are gone in meetings, ascending."""
    need_house(web, house)
    need_house(web, there)
    ties = check_meetings(web, meetings)
    # A house's count is the number of ways gone to it: so it is told ahead of all ways how many there are.
    if sum(way_counts(web, house, ties)[0]) > most:
        raise TooGreat(most)
    return tuple(sorted(ways_gone(web, house, ties)[there]))


def ways_gone(web, house, meetings):
    """By house the ways from a house to it that are gone in meetings."""
    ways = [[] for _ in range(web.houses)]
    ways[house].append(())
    # Each way goes on over a tie but once: so by tie it is kept how many ways of its houses have done so.
    passed = [(0, 0)] * len(web.ties)
    for tie in meetings:
        one, other = web.ties[tie]
        there = [way + (tie,) for way in ways[one][passed[tie][0]:] if way[-1:] != (tie,)]
        back = [way + (tie,) for way in ways[other][passed[tie][1]:] if way[-1:] != (tie,)]
        passed[tie] = (len(ways[one]), len(ways[other]))
        ways[one].extend(back)
        ways[other].extend(there)
    return ways


def round_counts(web, house, order, rounds, *, modulus=0):
    """(by house, by tie) how often a deed done at a house is counted behind rounds, by the modulus if there is one."""
    need_house(web, house)
    ties = check_meetings(web, order)
    if not is_below(rounds, MOST_NUMBER + 1):
        raise Refused(rounds)
    if not is_below(modulus, MOST_MODULUS + 1):
        raise Refused(modulus)
    counts = one_at(web, house)
    if modulus > 0:
        return parted(web, counts_by_powers(web, counts, ties, rounds, modulus))
    if rounds > MOST_ROUNDS:
        raise TooGreat(MOST_ROUNDS)
    for _ in range(rounds):
        counts = counts_behind(web, counts, ties, 0)
    return parted(web, counts)


def counts_by_powers(web, counts, order, rounds, modulus):
    """The counts behind rounds, by the modulus, told by what 1, 2, 4 and so on rounds make of each count alone."""
    images = [counts_behind(web, one_at(web, place), order, modulus) for place in range(len(counts))]
    numbers = tuple([counted_by(modulus, count) for count in counts])
    while rounds > 0:
        if rounds % 2 == 1:
            numbers = made_of(images, numbers, modulus)
        images = [made_of(images, image, modulus) for image in images]
        rounds //= 2
    return numbers


def made_of(images, numbers, modulus):
    """The sum of all images, each as often as its number."""
    sums = [0] * len(numbers)
    for image, times in zip(images, numbers):
        if times != 0:
            sums = [total + times * number for total, number in zip(sums, image)]
    return tuple([counted_by(modulus, total) for total in sums])


def heard_rounds(web, house, order):
    """By house the least number of rounds behind which the deed is counted there; None if it never is."""
    need_house(web, house)
    ties = check_meetings(web, order)
    heard = {house: 0}
    rounds = 0
    many = 0
    while len(heard) > many:
        many = len(heard)
        rounds += 1
        for tie in ties:
            one, other = web.ties[tie]
            if one in heard or other in heard:
                heard.setdefault(one, rounds)
                heard.setdefault(other, rounds)
    return tuple([heard.get(one) for one in range(web.houses)])


def order_rings(web, house, order):
    """How many rings the ties of an order make in the part of the house that they join."""
    met = Web(web.houses, [pair for tie, pair in enumerate(web.ties) if tie in order])
    return rings_of(met, part_of(met, house))


def pace_of(web, house, order):
    """(index, period, gains) of the counts behind more and more rounds; None if two rings make them grow faster."""
    need_house(web, house)
    ties = check_meetings(web, order)
    if order_rings(web, house, ties) > 1:
        return None
    counts = one_at(web, house)
    gain = tuple([more - less for more, less in zip(counts_behind(web, counts, ties, 0), counts)])
    # What a round adds tells what the next one adds: so from the first gain that comes again all goes round.
    found = {}
    while gain not in found:
        found[gain] = len(found)
        gain = counts_behind(web, gain, ties, 0)
    index = found[gain]
    again = list(found)[index:]
    return index, len(again), tuple([sum(gains) for gains in zip(*again)])[:web.houses]
