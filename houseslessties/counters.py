"""Nets of counters: states are numbers that deeds add to, and ties may keep any numbers."""

from houseslessties.errors import Refused
from houseslessties.kinds import is_below, is_sequence, is_whole, replaced
from houseslessties.webs import need_house, need_tie, part_of, ties_in

MOST_MODULUS = 1000000
MOST_NUMBER = 10 ** 18


def need_modulus(value):
    """The modulus itself: 0 for whole numbers, else from 2 on."""
    if not is_below(value, MOST_MODULUS + 1) or value == 1:
        raise Refused(value)
    return value


def is_amount(value):
    """Whether a value is an integer that may be passed."""
    return is_whole(value) and -MOST_NUMBER <= value <= MOST_NUMBER


def is_counter(modulus, value):
    """Whether a value may stand in a house or on a tie at first."""
    return is_amount(value) if modulus == 0 else is_below(value, modulus)


def counters_of(modulus, many, value):
    """So many counters as a tuple."""
    if not is_sequence(value, many, many) or not all([is_counter(modulus, item) for item in value]):
        raise Refused(value)
    return tuple(value)


def counted_by(modulus, number):
    """A number as it is counted by the modulus, if there is one."""
    return number if modulus == 0 else number % modulus


class CounterNet:
    """Houses that add to their numbers, and meet over ties."""

    def __init__(self, web, modulus, states, archives):
        self.modulus = need_modulus(modulus)
        self.states = counters_of(modulus, web.houses, states)
        self.archives = counters_of(modulus, len(web.ties), archives)
        self.web = web

    def do(self, house, amount):
        """The house's number behind the amount that is added."""
        need_house(self.web, house)
        if not is_amount(amount):
            raise Refused(amount)
        number = counted_by(self.modulus, self.states[house] + amount)
        self.states = replaced(self.states, house, number)
        return number

    def meet(self, tie):
        """The number of both houses and the tie behind their meeting."""
        one, other = self.web.ties[need_tie(self.web, tie)]
        number = counted_by(self.modulus, self.states[one] + self.states[other] - self.archives[tie])
        self.states = replaced(replaced(self.states, one, number), other, number)
        self.archives = replaced(self.archives, tie, number)
        return number

    def book(self, house):
        """The sum of the houses of the house's part less the sum of its ties."""
        part = part_of(self.web, house)
        houses = sum([self.states[one] for one in part])
        return counted_by(self.modulus, houses - sum([self.archives[tie] for tie in ties_in(self.web, part)]))
