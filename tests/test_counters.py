"""[1], [2], [3], [34]: nets of counters."""

import random
import unittest

from houseslessties.counters import CounterNet
from houseslessties.errors import NoHouse, NoTie, Refused
from houseslessties.webs import Web
from tests.cases import (
    FIVE, LINE, MOST_WEB, THREE, TWICE, any_values, joined_to, no_numbers, raised, repr_of, some_webs,
)

MOST = 10 ** 18
WEBS = some_webs(20, 3) + [THREE, TWICE, FIVE, LINE, Web(1, [])]


def some_net(web, modulus, rolls):
    """A net of counters that are rolled."""
    def roll():
        return rolls.randrange(modulus) if modulus else rolls.choice([0, 1, -1, MOST, -MOST, rolls.randrange(-99, 99)])
    return CounterNet(web, modulus, [roll() for _ in range(web.houses)], [roll() for _ in web.ties])


class CounterNetTest(unittest.TestCase):
    def refused(self, web, modulus, states, archives):
        return raised(self, Refused, CounterNet, web, modulus, states, archives)["at"]

    def test_attributes(self):
        states, archives = [5, 0, -2], [1, -3]
        net = CounterNet(web=LINE, modulus=0, states=states, archives=archives)
        states.append(7)
        archives[0] = 2
        self.assertIs(net.web, LINE)
        self.assertEqual(repr_of((net.modulus, net.states, net.archives)), repr_of((0, (5, 0, -2), (1, -3))))
        lone = CounterNet(Web(1, []), 2, (1,), ())
        self.assertEqual((lone.states, lone.archives, lone.book(0)), ((1,), (), 1))

    def test_moduli(self):
        for modulus in (0, 2, 3, 10 ** 6):
            self.assertEqual(CounterNet(LINE, modulus, [0, 1, 0], [1, 0]).modulus, modulus)
        for value in any_values() + [1, 10 ** 6 + 1, -2, [], "2", 10 ** 18]:
            if type(value) is int and value in (13, 10 ** 6):
                continue
            self.assertIs(self.refused(LINE, value, (0, 0, 0), (0, 0)), value)

    def test_numbers_of_houses_and_ties(self):
        for modulus, least, greatest in ((0, -MOST, MOST), (2, 0, 1), (7, 0, 6), (10 ** 6, 0, 10 ** 6 - 1)):
            net = CounterNet(LINE, modulus, [least, greatest, 0], [greatest, least])
            self.assertEqual((net.states, net.archives), ((least, greatest, 0), (greatest, least)))
            for number in (least - 1, greatest + 1, True, False, None, "0", [0], (0,), net, 10 ** 5000):
                for at in range(3):
                    wrong = [0] * at + [number] + [0] * (2 - at)
                    self.assertIs(self.refused(LINE, modulus, wrong, wrong), wrong)
                for at in range(2):
                    wrong = (0,) * at + (number,) + (0,) * (1 - at)
                    self.assertIs(self.refused(LINE, modulus, [0, 0, 0], wrong), wrong)
        for modulus in (0, 7):
            for wrong in any_values() + [(), [0], (0, 0), [0] * 4, "000", 0]:
                if wrong != (0, 0) and (wrong != (0, -1) or modulus):
                    self.assertIs(self.refused(LINE, modulus, (0, 0, 0), wrong), wrong)
                self.assertIs(self.refused(LINE, modulus, wrong, wrong), wrong)

    def test_which_error_comes_first(self):
        self.assertEqual(self.refused(LINE, 1, None, "archives"), 1)
        self.assertEqual(self.refused(LINE, 0, "states", "archives"), "states")
        self.assertEqual(self.refused(LINE, 0, (0, 0, 0), "archives"), "archives")

    def test_step_by_step(self):
        rolls = random.Random(1)
        for web in WEBS:
            for modulus in (0, 2, 12, 10 ** 6):
                net = some_net(web, modulus, rolls)
                states, archives = list(net.states), list(net.archives)
                for _ in range(30):
                    if web.ties and rolls.random() < 0.6:
                        tie = rolls.randrange(len(web.ties))
                        one, other = web.ties[tie]
                        number = self.by(modulus, states[one] + states[other] - archives[tie])
                        states[one] = states[other] = archives[tie] = number
                        self.assertEqual(net.meet(tie), number)
                    else:
                        house = rolls.randrange(web.houses)
                        amount = rolls.choice([0, 1, -1, MOST, -MOST, 999, -12])
                        states[house] = self.by(modulus, states[house] + amount)
                        self.assertEqual(net.do(house, amount), states[house])
                    self.assertEqual(repr_of((net.states, net.archives)), repr_of((tuple(states), tuple(archives))))

    def by(self, modulus, number):
        return number % modulus if modulus else number

    def test_books(self):
        rolls = random.Random(2)
        for web in WEBS:
            for modulus in (0, 5, 10 ** 6):
                net = some_net(web, modulus, rolls)
                for _ in range(20):
                    self.check_books(net)
                    before = [net.book(house) for house in range(web.houses)]
                    if web.ties and rolls.random() < 0.6:
                        net.meet(rolls.randrange(len(web.ties)))
                        self.assertEqual([net.book(house) for house in range(web.houses)], before)
                    else:
                        house, amount = rolls.randrange(web.houses), rolls.randrange(-50, 50)
                        net.do(house, amount)
                        part = joined_to(web, house)
                        told = [self.by(modulus, book + amount) if one in part else book for one, book in enumerate(before)]
                        self.assertEqual([net.book(one) for one in range(web.houses)], told)

    def check_books(self, net):
        for house in range(net.web.houses):
            part = joined_to(net.web, house)
            total = sum(net.states[one] for one in part)
            total -= sum(archive for pair, archive in zip(net.web.ties, net.archives) if pair[0] in part)
            self.assertEqual(repr_of(net.book(house)), repr_of(self.by(net.modulus, total)))

    def test_numbers_longer_than_those_that_are_passed(self):
        net = CounterNet(TWICE, 0, (MOST, MOST), (-MOST, -MOST))
        self.assertEqual((net.meet(0), net.meet(1), net.do(house=0, amount=MOST)), (3 * MOST, 7 * MOST, 8 * MOST))
        for at in range(400):
            net.meet(tie=at % 2)
        self.assertEqual(net.book(house=1), 5 * MOST)
        great = CounterNet(MOST_WEB, 0, (MOST,) * 12, (-MOST,) * 20)
        for at in range(400):
            great.meet(at % 20)
        self.assertEqual(great.book(11), 32 * MOST)

    def test_any_value(self):
        net = CounterNet(LINE, 7, (1, 2, 3), (4, 5))
        before = repr_of(net)
        for value in no_numbers() + [3]:
            self.assertIs(raised(self, NoHouse, net.do, value, value)["house"], value)
            self.assertIs(raised(self, NoHouse, net.book, value)["house"], value)
            self.assertIs(raised(self, NoTie, net.meet, value)["tie"], value)
            if type(value) is not int:
                self.assertIs(raised(self, Refused, net.do, 0, value)["at"], value)
        for value in (MOST + 1, -MOST - 1, 10 ** 5000, True, False, None, "1", [1], (1,)):
            self.assertIs(raised(self, Refused, net.do, 2, value)["at"], value)
        self.assertEqual(raised(self, NoTie, net.meet, 2), {"tie": 2})
        self.assertEqual(repr_of(net), before)
        self.assertEqual((net.do(0, -MOST), net.do(1, MOST)), ((1 - MOST) % 7, (2 + MOST) % 7))
