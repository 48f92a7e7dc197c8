"""[1], [2], [3], [40], [41], [42], [43]: accidents of nets of counters, and the one sum that mends each."""

import random
import unittest

from houseslessties.accidents import house_back, lacking, meeting_broken, tie_lost, tie_opened
from houseslessties.counters import CounterNet
from houseslessties.errors import BadWeb, NoHouse, NoTie, Refused
from houseslessties.machines import Machine
from houseslessties.rests import is_rest, sweep
from houseslessties.webs import Web
from tests.cases import (
    FIVE, LINE, MOST_WEB, THREE, TWICE, any_values, is_tupled, joined_to, no_numbers, raised, repr_of, some_webs,
)

MODULI = (0, 2, 7, 10 ** 6)
GREAT = 10 ** 400
WEBS = [web for web in some_webs(25, 9) if web.ties] + [THREE, TWICE, FIVE, LINE]
TREES = [LINE, Web(2, [(1, 0)]), Web(5, [(0, 1), (1, 2), (3, 1), (4, 3)]), Web(4, [(0, 1), (2, 3)]), Web(1, [])]


def by(modulus, number):
    return number % modulus if modulus else number


def some_net(web, modulus, rolls):
    """A net whose houses and ties stand anyhow."""
    def roll():
        return rolls.randrange(modulus) if modulus else rolls.randrange(-99, 99)
    return CounterNet(web, modulus, [roll() for _ in range(web.houses)], [roll() for _ in web.ties])


def some_run(net, many, rolls):
    """Rolled deeds and meetings; what was done by house."""
    done = [0] * net.web.houses
    for _ in range(many):
        if net.web.ties and rolls.random() < 0.5:
            net.meet(rolls.randrange(len(net.web.ties)))
        else:
            house, amount = rolls.randrange(net.web.houses), rolls.randrange(-20, 21)
            net.do(house, amount)
            done[house] += amount
    return done


def total(net):
    return sum(net.states) - sum(net.archives)


def nets(seed):
    rolls = random.Random(seed)
    for web in WEBS:
        for modulus in MODULI:
            net = some_net(web, modulus, rolls)
            some_run(net, rolls.randrange(8), rolls)
            yield net, rolls


class AccidentTest(unittest.TestCase):
    def check(self, told, net, ties, states, archives):
        """An accident against what it should leave."""
        left, change = told
        self.assertTrue(is_tupled(told))
        self.assertIsNot(left, net)
        self.assertEqual(repr_of(left.web), repr_of(Web(net.web.houses, ties)))
        self.assertEqual(left.modulus, net.modulus)
        self.assertEqual(repr_of(left.states), repr_of(tuple(by(net.modulus, number) for number in states)))
        self.assertEqual(repr_of(left.archives), repr_of(tuple(by(net.modulus, number) for number in archives)))
        self.assertEqual(repr_of(change), repr_of(by(net.modulus, total(left) - total(net))))
        # The new net goes on by itself.
        before = repr_of(net)
        left.do(0, 5)
        if ties:
            left.meet(len(ties) - 1)
        self.assertEqual(repr_of(net), before)


class TieLostTest(AccidentTest):
    def test_each_tie(self):
        for net, _ in nets(1):
            before = repr_of(net)
            for tie in range(len(net.web.ties)):
                ties, archives = list(net.web.ties), list(net.archives)
                del ties[tie], archives[tie]
                self.check(tie_lost(net=net, tie=tie), net, ties, net.states, archives)
                self.assertEqual(tie_lost(net, tie)[1], by(net.modulus, net.archives[tie]))
            self.assertEqual(repr_of(net), before)

    def test_books_of_parts(self):
        for net, _ in nets(2):
            for tie, (one, other) in enumerate(net.web.ties):
                left, change = tie_lost(net, tie)
                if other in joined_to(left.web, one):
                    self.assertEqual(left.book(one), by(net.modulus, net.book(one) + change))
                else:
                    both = left.book(one) + left.book(other)
                    self.assertEqual(by(net.modulus, both), by(net.modulus, net.book(one) + change))

    def test_later_ties_are_numbered_one_less(self):
        net = CounterNet(THREE, 0, (5, 7, 2), (4, 1, 0))
        self.assertEqual(tie_lost(net, 0)[0].web, Web(3, [(1, 2), (2, 0)]))
        self.assertEqual((tie_lost(net, 0)[1], tie_lost(net, 1)[0].archives, tie_lost(net, 2)[1]), (4, (4, 0), 0))

    def test_any_value(self):
        net = CounterNet(LINE, 7, (1, 2, 3), (4, 5))
        for value in no_numbers() + [2]:
            self.assertIs(raised(self, NoTie, tie_lost, net, value)["tie"], value)


class TieOpenedTest(AccidentTest):
    def test_each_pair(self):
        for net, rolls in nets(3):
            before = repr_of(net)
            for one in range(net.web.houses):
                for other in range(net.web.houses):
                    if one == other:
                        continue
                    archive = rolls.choice([0, 1, -1, 6, GREAT, -GREAT, 10 ** 18 + 1])
                    pair = rolls.choice([(one, other), [one, other]])
                    told = tie_opened(net=net, pair=pair, archive=archive)
                    self.check(told, net, list(net.web.ties) + [(one, other)], net.states, net.archives + (archive,))
                    self.assertEqual(told[1], by(net.modulus, -archive))
                    self.check_books(net, one, other, archive)
            self.assertEqual(repr_of(net), before)

    def check_books(self, net, one, other, archive):
        left, change = tie_opened(net, (one, other), archive)
        both = net.book(one)
        if other not in joined_to(net.web, one):
            both += net.book(other)
        self.assertEqual(left.book(one), by(net.modulus, both + change))

    def test_changes_to_the_pair_have_no_effect(self):
        net, pair = CounterNet(LINE, 0, (1, 2, 3), (4, 5)), [0, 2]
        left = tie_opened(net, pair, -6)[0]
        pair.append(7)
        self.assertEqual(repr_of(left.web.ties), repr_of(((0, 1), (1, 2), (0, 2))))
        self.assertEqual(left.archives, (4, 5, -6))

    def test_pairs_that_are_none(self):
        net = CounterNet(THREE, 0, (5, 7, 2), (4, 1, 0))
        wrong = [
            (0, 0), [1, 1], (0,), (0, 1, 2), (0, 3), (3, 0), (-1, 0), (0, -1), (True, 0), (0, False), (0, True), (None, 1),
            (0, None), ("0", 1), ((0,), 1), (0, 10 ** 5000), "01", {0: 1}, (Machine([(0,)]), 0),
        ]
        for value in no_numbers() + wrong:
            self.assertIs(raised(self, Refused, tie_opened, net, value, "archive")["at"], value)

    def test_archives_that_are_none(self):
        net = CounterNet(THREE, 5, (0, 1, 2), (4, 1, 0))
        for value in no_numbers():
            if type(value) is not int:
                self.assertIs(raised(self, Refused, tie_opened, net, (2, 0), value)["at"], value)

    def test_a_web_of_twenty_ties(self):
        net = CounterNet(MOST_WEB, 0, (1,) * 12, (2,) * 20)
        self.assertEqual(raised(self, Refused, tie_opened, net, (0, 0), None), {"at": (0, 0)})
        self.assertEqual(raised(self, Refused, tie_opened, net, (0, 1), None), {"at": None})
        self.assertEqual(raised(self, BadWeb, tie_opened, net, (0, 1), -3), {"at": -1})
        less = tie_lost(net, 19)[0]
        more = tie_opened(less, (3, 9), GREAT)[0]
        self.assertEqual((len(more.web.ties), more.archives[19], more.book(2)), (20, GREAT, 12 - 38 - GREAT))


class HouseBackTest(AccidentTest):
    def test_each_house_and_tie(self):
        for net, rolls in nets(4):
            before = repr_of(net)
            for house in range(net.web.houses):
                state = rolls.choice([0, -1, 5, GREAT, -GREAT, 10 ** 6])
                states = list(net.states)
                states[house] = state
                told = house_back(net=net, house=house, state=state)
                self.check(told, net, net.web.ties, states, net.archives)
                self.assertEqual(told[1], by(net.modulus, state - net.states[house]))
                self.assertEqual(repr_of(told), repr_of((told[0], house_back(net, house, state, tie=None)[1])))
                for tie, pair in enumerate(net.web.ties):
                    if house in pair:
                        archives = list(net.archives)
                        archives[tie] = state
                        told = house_back(net, house, state, tie=tie)
                        self.check(told, net, net.web.ties, states, archives)
                        self.assertEqual(told[1], by(net.modulus, net.archives[tie] - net.states[house]))
                    else:
                        self.assertEqual(raised(self, Refused, house_back, net, house, state, tie=tie), {"at": tie})
            self.assertEqual(repr_of(net), before)

    def test_what_it_has_done_since_its_last_meeting(self):
        for net, rolls in nets(5):
            tie = rolls.randrange(len(net.web.ties))
            house = rolls.choice(net.web.ties[tie])
            net.meet(tie)
            since = 0
            self.assertEqual(house_back(net, house, -4, tie=tie)[1], 0)
            for _ in range(12):
                others = [one for one, pair in enumerate(net.web.ties) if house not in pair]
                if others and rolls.random() < 0.5:
                    net.meet(rolls.choice(others))
                else:
                    one, amount = rolls.randrange(net.web.houses), rolls.randrange(-20, 21)
                    net.do(one, amount)
                    since += amount if one == house else 0
                left, change = house_back(net, house, rolls.randrange(-50, 50), tie=tie)
                self.assertEqual(change, by(net.modulus, -since))
                self.assertEqual(left.book(house), by(net.modulus, net.book(house) - since))

    def test_only_by_name(self):
        with self.assertRaises(TypeError):
            house_back(CounterNet(LINE, 0, (1, 2, 3), (4, 5)), 0, 0, 0)

    def test_any_value(self):
        net = CounterNet(THREE, 7, (1, 2, 3), (4, 5, 6))
        for value in no_numbers() + [3]:
            self.assertIs(raised(self, NoHouse, house_back, net, value, None, tie=value)["house"], value)
            if type(value) is not int:
                self.assertIs(raised(self, Refused, house_back, net, 1, value, tie=3)["at"], value)
            if value is not None:
                self.assertIs(raised(self, NoTie, house_back, net, 1, 10 ** 30, tie=value)["tie"], value)
        self.assertEqual(raised(self, Refused, house_back, net, 1, 0, tie=2), {"at": 2})


class MeetingBrokenTest(AccidentTest):
    def test_each_word(self):
        for net, _ in nets(6):
            before = repr_of(net)
            for tie, pair in enumerate(net.web.ties):
                joined = net.states[pair[0]] + net.states[pair[1]] - net.archives[tie]
                for side in (0, 1):
                    states = list(net.states)
                    states[pair[side]] = joined
                    kept = {"old": net.archives[tie], "new": joined, "other": net.states[pair[1 - side]]}
                    for word in kept:
                        archives = list(net.archives)
                        archives[tie] = kept[word]
                        told = meeting_broken(net=net, tie=tie, side=side, archive=word)
                        self.check(told, net, net.web.ties, states, archives)
                        self.check_change(net, tie, pair[side], word, told[1])
            self.assertEqual(repr_of(net), before)

    def check_change(self, net, tie, house, word, change):
        other = sum(net.web.ties[tie]) - house
        changes = {"old": net.states[other] - net.archives[tie], "new": net.archives[tie] - net.states[house], "other": 0}
        self.assertEqual(change, by(net.modulus, changes[word]))

    def test_other_leaves_right_counts_without_rings(self):
        rolls = random.Random(7)
        for web in TREES:
            for modulus in MODULI:
                net = CounterNet(web, modulus, (0,) * web.houses, (0,) * len(web.ties))
                done = [0] * web.houses
                for _ in range(6):
                    done = [one + more for one, more in zip(done, some_run(net, 6, rolls))]
                    if web.ties:
                        net = meeting_broken(net, rolls.randrange(len(web.ties)), rolls.randrange(2), "other")[0]
                for house in range(web.houses):
                    part = joined_to(web, house)
                    truth = by(modulus, sum(done[one] for one in part))
                    self.assertEqual(net.book(house), truth)
                    for tie in sweep(web, house):
                        net.meet(tie)
                    self.assertEqual({net.states[one] for one in part}, {truth})

    def test_any_value(self):
        net = CounterNet(THREE, 7, (1, 2, 3), (4, 5, 6))
        for value in no_numbers() + [3]:
            self.assertIs(raised(self, NoTie, meeting_broken, net, value, 2, None)["tie"], value)
        for value in no_numbers() + [2]:
            self.assertIs(raised(self, Refused, meeting_broken, net, 0, value, None)["at"], value)
        for value in no_numbers() + ["Old", "ne", "others", b"old", ("old",), ["new"], 0, 1, 2]:
            self.assertIs(raised(self, Refused, meeting_broken, net, 0, 1, value)["at"], value)


class LackingTest(unittest.TestCase):
    def test_the_book_is_the_truth_then(self):
        for net, rolls in nets(8):
            for house in range(net.web.houses):
                truth = rolls.choice([0, 12, -5, 999, 10 ** 6 + 3])
                amount = lacking(net=net, house=house, truth=truth)
                self.assertEqual(repr_of(amount), repr_of(by(net.modulus, truth - net.book(house))))
                mended = CounterNet(net.web, net.modulus, net.states, net.archives)
                mended.do(rolls.choice(sorted(joined_to(net.web, house))), amount)
                self.assertEqual(mended.book(house), by(net.modulus, truth))

    def test_great_truths(self):
        net = CounterNet(FIVE, 0, (1, 2, 3, 4, 5), (1, 1, 1, 1))
        self.assertEqual((lacking(net, 4, GREAT), lacking(net, 0, -GREAT)), (GREAT - 8, -GREAT - 3))
        seven = CounterNet(FIVE, 7, (1, 2, 3, 4, 5), (1, 1, 1, 1))
        self.assertEqual((lacking(seven, 4, GREAT), lacking(seven, 0, -3)), ((GREAT - 8) % 7, 1))

    def test_one_sum_mends_whatever_came(self):
        rolls = random.Random(9)
        for web in TREES:
            for modulus in MODULI:
                for _ in range(4):
                    self.check_mended(web, modulus, rolls)

    def check_mended(self, web, modulus, rolls):
        net = CounterNet(web, modulus, (0,) * web.houses, (0,) * len(web.ties))
        truths = some_run(net, 8, rolls)
        changes = 0
        house = rolls.randrange(web.houses)
        part = sorted(joined_to(web, house))
        for _ in range(3):
            one = rolls.choice(part)
            told = house_back(net, one, rolls.choice([3, -8, GREAT]))
            ties = [tie for tie, pair in enumerate(web.ties) if pair[0] in part]
            if ties and rolls.random() < 0.6:
                told = meeting_broken(net, rolls.choice(ties), rolls.randrange(2), rolls.choice(["old", "new"]))
            net, changes = told[0], changes + told[1]
            truths = [one + more for one, more in zip(truths, some_run(net, 5, rolls))]
        truth = sum(truths[one] for one in part)
        self.assertEqual(lacking(net, house, truth), by(modulus, -changes))
        for other in part:
            mended = house_back(net, other, net.states[other] + lacking(net, house, truth))[0]
            self.assertEqual(mended.book(house), by(modulus, truth))
            for tie in sweep(web, house):
                mended.meet(tie)
            self.assertEqual([mended.states[one] for one in part], [by(modulus, truth)] * len(part))
            if len(part) == web.houses:
                self.assertTrue(is_rest(mended))

    def test_any_value(self):
        net = CounterNet(THREE, 7, (1, 2, 3), (4, 5, 6))
        for value in no_numbers() + [3]:
            self.assertIs(raised(self, NoHouse, lacking, net, value, None)["house"], value)
        for value in any_values():
            if type(value) is not int:
                self.assertIs(raised(self, Refused, lacking, net, 0, value)["at"], value)
