"""[1], [2], [3], [35], [36], [37], [38], [39]: rests, sweeps, turns, the longest way, the best order."""

import copy
import itertools
import random
import unittest

from houseslessties.counters import CounterNet
from houseslessties.errors import NoHouse, Refused
from houseslessties.rests import (
    are_right, best_turns, check_turns, fewest_rounds, is_rest, longest_way, rest_after, rest_values, sweep, turns_heard,
)
from houseslessties.webs import Web, is_forest
from tests.cases import (
    FIVE, LINE, MOST_WEB, THREE, TWICE, any_values, is_tupled, joined_to, no_numbers, raised, repr_of, some_webs,
)

RINGED = [web for web in some_webs(60, 2) if not is_forest(web)] + [THREE, TWICE, FIVE, MOST_WEB]
STAR = Web(6, [(0, house) for house in range(1, 6)])
PATH = Web(7, [(house, house + 1) for house in range(6)])


def some_forests(many, most, seed):
    """So many forests of up to so many houses, numbered as it comes."""
    rolls = random.Random(seed)
    found = []
    for _ in range(many):
        houses = rolls.randrange(1, most + 1)
        names = rolls.sample(range(houses), houses)
        pairs = [rolls.sample((names[at], names[rolls.randrange(at)]), 2) for at in range(1, houses)]
        found.append(Web(houses, [pair for pair in rolls.sample(pairs, len(pairs)) if rolls.random() < 0.9]))
    return found


def all_trees(houses):
    """All webs without rings that make one part, as sequences of houses tell them."""
    for words in itertools.product(range(houses), repeat=max(houses - 2, 0)):
        left, pairs = list(range(houses)), []
        rest = list(words)
        while len(left) > 2:
            leaf = next(house for house in left if house not in rest)
            left.remove(leaf)
            pairs.append((leaf, rest.pop(0)))
        yield Web(houses, pairs + ([tuple(left)] if len(left) == 2 else []))


FORESTS = some_forests(60, 6, 1) + [LINE, STAR, PATH, Web(1, []), Web(4, []), Web(2, [(1, 0)])]
GREAT = [
    Web(12, [(house, house + 1) for house in range(11)]), Web(12, [(house, 11) for house in range(11)]),
    Web(12, [(house, house - 1) for house in range(11, 0, -1)]), Web(12, [((house - 1) // 2, house) for house in range(1, 12)]),
    Web(12, [(0, 1), (1, 2), (2, 3), (4, 5), (5, 6), (6, 7), (7, 8), (9, 10), (9, 11)]),
] + some_forests(25, 12, 2)


def rolled_net(web, rolls, modulus=0):
    """A net whose numbers have next to no chance of being alike but where they must."""
    def roll():
        return rolls.randrange(modulus) if modulus else rolls.randrange(-10 ** 18, 10 ** 18)
    return CounterNet(web, modulus, [roll() for _ in range(web.houses)], [roll() for _ in web.ties])


def rests_by_hand(net):
    """Whether no meeting changes anything, by meeting over each tie."""
    for tie in range(len(net.web.ties)):
        other = copy.copy(net)
        other.meet(tie)
        if (other.states, other.archives) != (net.states, net.archives):
            return False
    return True


def distances(web, house):
    """By joined house how many ties lie between."""
    found = {house: 0}
    for many in range(web.houses):
        for one, other in web.ties:
            for here, there in ((one, other), (other, one)):
                if found.get(here) == many and there not in found:
                    found[there] = many + 1
    return found


def meetings_to_rest(web, turns, rolls):
    """Behind how many meetings in turn rolled nets are at rest."""
    nets = [rolled_net(web, rolls) for _ in range(3)]
    meetings = 0
    while not all(rests_by_hand(net) for net in nets):
        for net in nets:
            net.meet(turns[meetings % len(turns)])
        meetings += 1
    return meetings


class RestTest(unittest.TestCase):
    def test_whether_it_rests(self):
        kinds = {True: 0, False: 0}
        for web in FORESTS + RINGED[:10]:
            for modulus, numbers in ((0, (0, 0, 0, 1)), (2, (0, 1)), (3, (2, 2, 2, 0))):
                rolls = random.Random(len(web.ties))
                for _ in range(4):
                    states = [rolls.choice(numbers) for _ in range(web.houses)]
                    net = CounterNet(web, modulus, states, [rolls.choice(numbers) for _ in web.ties])
                    told = is_rest(net)
                    self.assertIs(told, rests_by_hand(net))
                    kinds[told] += 1
        self.assertGreater(min(kinds.values()), 20)
        self.assertIs(is_rest(net=CounterNet(FIVE, 0, (3, 3, 3, -4, -4), (3, 3, 3, -4))), True)
        self.assertIs(is_rest(CounterNet(Web(2, []), 0, (1, 2), ())), True)
        for states, archives in (((1, 1, 1), (1, 0)), ((1, 1, 0), (1, 1)), ((0, 1, 1), (1, 1)), ((0, 0, 0), (1, 0))):
            self.assertIs(is_rest(CounterNet(LINE, 0, states, archives)), False)

    def test_rests_of_small_moduli(self):
        for modulus in range(2, 13):
            for rings in list(range(14)) + [25]:
                for total in range(-14, 15):
                    found = [number for number in range(modulus) if (number * (1 - rings) - total) % modulus == 0]
                    told = rest_values(modulus, rings, total)
                    if not found:
                        self.assertIsNone(told)
                    else:
                        step = found[1] - found[0] if len(found) > 1 else modulus
                        self.assertEqual(repr_of(told), repr_of((found[0], step)))
                    self.assertIs(are_right(modulus, rings, total), all(one == total % modulus for one in found))

    def test_rests_of_whole_numbers(self):
        for rings in range(8):
            for total in range(-30, 31):
                found = [number for number in range(-40, 41) if number * (1 - rings) == total]
                told = rest_values(0, rings, total)
                if len(found) > 1:
                    self.assertEqual((told, rings), ((0, 1), 1))
                else:
                    self.assertEqual(repr_of(told), repr_of((found[0], 0) if found else None))
                self.assertIs(are_right(0, rings, total), all(one == total for one in found))

    def test_numbers_as_great_as_one_likes(self):
        for total in (10 ** 5000, -10 ** 5000):
            self.assertEqual(rest_values(modulus=0, rings=0, total=total), (total, 0))
            self.assertEqual(rest_values(0, 2, total), (-total, 0))
            self.assertIsNone(rest_values(0, 4, total))
            self.assertIsNone(rest_values(0, 1, total))
            self.assertEqual(rest_values(10 ** 6, 1, total), (0, 1))
            self.assertIs(are_right(0, 10 ** 5000 + 1, total), False)
            self.assertEqual(rest_values(0, 10 ** 5000 + 1, total), (-1 if total > 0 else 1, 0))
        self.assertEqual(rest_values(999983, 10 ** 5000, 5), (self.by_hand(999983, 10 ** 5000, 5), 999983))
        self.assertIs(are_right(modulus=10 ** 6, rings=10 ** 5000, total=-10 ** 4000 + 3), True)
        first, step = rest_values(10 ** 6, 10 ** 5000 + 5, 10 ** 900 + 4)
        self.assertEqual((step, first * -4 % 10 ** 6), (250000, 4))

    def by_hand(self, modulus, rings, total):
        return total * pow(1 - rings, -1, modulus) % modulus

    def test_right_ones(self):
        for modulus in [0] + list(range(2, 9)):
            for rings in range(10):
                right = all(are_right(modulus, rings, total) for total in range(-9, 10))
                self.assertIs(right, rings == 0 if modulus == 0 else rings % modulus == 0)
        self.assertEqual((are_right(6, 3, 2), are_right(3, 3, 2)), (False, True))

    def test_rests_are_rests(self):
        for web in (LINE, THREE, TWICE, FIVE):
            part = joined_to(web, 0)
            ties = [pair for pair in web.ties if pair[0] in part]
            rings = len(ties) - len(part) + 1
            for modulus in (2, 6, 7):
                for number in range(modulus):
                    net = CounterNet(web, modulus, (number,) * web.houses, (number,) * len(web.ties))
                    first, step = rest_values(modulus, rings, net.book(0))
                    self.assertTrue(is_rest(net))
                    self.assertEqual((number - first) % step, 0)

    def test_any_value(self):
        for function in (rest_values, are_right):
            for value in any_values() + [1, [], 10 ** 6 + 1, -2]:
                if not (type(value) is int and value in (13, 10 ** 6)):
                    self.assertIs(raised(self, Refused, function, value, 0, 0)["at"], value)
                    self.assertIs(raised(self, Refused, function, value, "rings", "total")["at"], value)
                if not (type(value) is int and value >= 0):
                    self.assertIs(raised(self, Refused, function, 7, value, "total")["at"], value)
                    self.assertIs(raised(self, Refused, function, 0, value, 0)["at"], value)
                if type(value) is not int:
                    self.assertIs(raised(self, Refused, function, 0, 0, value)["at"], value)
                    self.assertIs(raised(self, Refused, function, 7, 1, value)["at"], value)


class SweepTest(unittest.TestCase):
    def test_parts_come_to_rest_at_their_book(self):
        rolls = random.Random(5)
        for web in FORESTS + GREAT:
            for house in range(web.houses):
                part = joined_to(web, house)
                ties = [tie for tie, pair in enumerate(web.ties) if pair[0] in part]
                told = sweep(web, house)
                self.assertEqual(len(told), max(2 * len(part) - 3, 0))
                self.assertTrue(is_tupled(told))
                self.assertLessEqual(set(told), set(ties))
                for modulus in (0, 1000):
                    net = rolled_net(web, rolls, modulus)
                    book = net.book(house)
                    for tie in told:
                        net.meet(tie)
                    self.assertEqual({net.states[one] for one in part} | {net.archives[tie] for tie in ties}, {book})
        self.assertEqual(sweep(web=Web(1, []), house=0), ())
        self.assertEqual(sweep(Web(3, [(2, 0)]), 1), ())
        self.assertEqual(sweep(Web(3, [(2, 0)]), 0), (0,))

    def test_no_fewer_meetings_do_it(self):
        for web in (LINE, Web(4, [(0, 1), (1, 2), (2, 3)]), Web(4, [(0, 1), (0, 2), (0, 3)])):
            rolls = random.Random(3)
            for turns in itertools.product(range(len(web.ties)), repeat=2 * web.houses - 4):
                net = rolled_net(web, rolls)
                for tie in turns:
                    net.meet(tie)
                self.assertFalse(is_rest(net))

    def test_rings_here_and_elsewhere(self):
        other = Web(6, [(0, 1), (2, 3), (3, 4), (4, 2), (1, 5)])
        self.assertEqual(len(sweep(other, 5)), 3)
        self.assertIs(raised(self, Refused, sweep, other, 4)["at"], other)
        for web in RINGED:
            for house in range(web.houses):
                part = joined_to(web, house)
                ties = [pair for pair in web.ties if pair[0] in part]
                if len(ties) >= len(part):
                    self.assertIs(raised(self, Refused, sweep, web, house)["at"], web)
                else:
                    self.assertEqual(len(sweep(web, house)), max(2 * len(part) - 3, 0))

    def test_any_value(self):
        for web in (LINE, THREE):
            for value in no_numbers() + [3]:
                self.assertIs(raised(self, NoHouse, sweep, web, value)["house"], value)


class TurnsTest(unittest.TestCase):
    def test_orders(self):
        for turns in itertools.permutations(range(3)):
            self.assertEqual(check_turns(THREE, turns), turns)
            self.assertEqual(repr_of(check_turns(web=THREE, value=list(turns))), repr_of(turns))
        self.assertEqual(check_turns(Web(1, []), []), ())
        self.assertEqual(check_turns(MOST_WEB, list(range(19, -1, -1))), tuple(range(19, -1, -1)))

    def test_no_orders(self):
        wrong = [(0, 1), (0, 1, 1), (0, 0, 0), (0, 1, 3), (0, 1, -1), [0, 1, 2, 0], (0, True, 2), [False, 1, 2], (0, 1, None),
                 (0, 1, "2"), "012", (0, 1, (2,)), ((0, 1, 2),), (1, 2, 3), 3, (0, 1, 10 ** 900), [[], 1, 2]]
        for value in wrong + any_values() + [[], ()]:
            self.assertIs(raised(self, Refused, check_turns, THREE, value)["at"], value)
            self.assertIs(raised(self, Refused, turns_heard, THREE, value, None, value)["at"], value)
        for value in [(0,), (1, 1), (0, 2), (True, 0), [0, False], None, "01"]:
            self.assertIs(raised(self, Refused, rest_after, LINE, value)["at"], value)
        for value in any_values() + [[0], 0]:
            self.assertIs(raised(self, Refused, check_turns, Web(1, []), value)["at"], value)

    def test_heard(self):
        rolls = random.Random(7)
        for web in FORESTS + RINGED + GREAT[:6]:
            turns = rolls.sample(range(len(web.ties)), len(web.ties))
            for house, other in itertools.product(range(web.houses), repeat=2):
                self.assertEqual(repr_of(turns_heard(web, turns, house, other)),
                                 repr_of(self.by_hand(web, turns, house, other)))
        self.assertEqual(turns_heard(web=LINE, turns=[0, 1], house=2, other=0), 3)
        self.assertEqual(turns_heard(LINE, (0, 1), 0, 2), 2)
        self.assertEqual(turns_heard(Web(2, []), (), 1, 1), 0)
        self.assertIsNone(turns_heard(Web(2, []), (), 1, 0))
        self.assertIsNone(turns_heard(FIVE, (3, 2, 1, 0), 4, 0))

    def by_hand(self, web, turns, house, other):
        if other not in joined_to(web, house):
            return None
        net = CounterNet(web, 0, [int(one == house) for one in range(web.houses)], [0] * len(web.ties))
        meetings = 0
        while net.states[other] == 0:
            net.meet(turns[meetings % len(turns)])
            meetings += 1
        return meetings

    def test_heard_by_any_value(self):
        for value in no_numbers() + [3]:
            self.assertIs(raised(self, NoHouse, turns_heard, LINE, (0, 1), value, None)["house"], value)
            self.assertIs(raised(self, NoHouse, turns_heard, LINE, (1, 0), 2, value)["house"], value)

    def test_until_all_rest(self):
        rolls = random.Random(8)
        for web in FORESTS:
            orders = list(itertools.permutations(range(len(web.ties))))
            for turns in rolls.sample(orders, min(len(orders), 8)):
                told = rest_after(web, turns)
                self.assertEqual(told, meetings_to_rest(web, turns, rolls))
                self.assertEqual(told, rest_after(web, list(turns)))
        self.assertEqual(rest_after(web=LINE, turns=(0, 1)), 3)
        self.assertEqual(rest_after(Web(12, []), []), 0)
        self.assertEqual(rest_after(Web(2, [(1, 0)]), [0]), 1)

    def test_until_all_rest_in_great_webs(self):
        rolls = random.Random(9)
        for web in GREAT:
            turns = rolls.sample(range(len(web.ties)), len(web.ties))
            self.assertEqual(rest_after(web, turns), meetings_to_rest(web, turns, rolls))
        self.assertEqual(rest_after(GREAT[0], list(range(11))), 111)


class LongestWayTest(unittest.TestCase):
    def test_longest_ways(self):
        for web in FORESTS + GREAT:
            longest = max(max(distances(web, house).values()) for house in range(web.houses))
            self.assertEqual(repr_of(longest_way(web)), repr_of(longest))
            self.assertEqual(fewest_rounds(web), longest // 2 + 1 if web.ties else 0)
        self.assertEqual((longest_way(web=PATH), longest_way(STAR), longest_way(GREAT[4])), (6, 2, 4))
        self.assertEqual((fewest_rounds(web=PATH), fewest_rounds(STAR), fewest_rounds(Web(2, [(0, 1)]))), (4, 2, 1))

    def test_the_fewest_rounds_of_all_orders(self):
        for web in [web for web in FORESTS if len(web.ties) < 6]:
            rounds = [-(-rest_after(web, turns) // max(len(turns), 1)) for turns in itertools.permutations(range(len(web.ties)))]
            self.assertEqual(fewest_rounds(web), min(rounds))

    def test_the_best_order(self):
        for web in FORESTS + GREAT + [tree for houses in range(1, 7) for tree in all_trees(houses)]:
            turns = best_turns(web)
            self.assertEqual(check_turns(web, turns), turns)
            self.assertLessEqual(rest_after(web, turns), fewest_rounds(web) * len(web.ties))
        self.assertEqual(best_turns(web=Web(3, [])), ())

    def test_webs_with_rings(self):
        for web in RINGED:
            self.assertIs(raised(self, Refused, longest_way, web)["at"], web)
            self.assertIs(raised(self, Refused, fewest_rounds, web)["at"], web)
            self.assertIs(raised(self, Refused, best_turns, web)["at"], web)
            self.assertIs(raised(self, Refused, rest_after, web, None)["at"], web)
            self.assertIs(raised(self, Refused, rest_after, web, list(range(len(web.ties))))["at"], web)
