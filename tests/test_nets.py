"""[1], [2], [3], [21], [22]: steps, nets, standings and truths."""

import random
import unittest

from houseslessties.errors import BadSteps, NoDeed, NoHouse, NoState, NoTie, Untold
from houseslessties.joins import join
from houseslessties.machines import Machine
from houseslessties.nets import Net, check_steps, standing_after, truth_of
from houseslessties.webs import Web
from tests.cases import (
    CLOCK, FIVE, LINE, MIXED, MOST_MIXED, MOST_WEB, RING, SWAP, THREE, TURN, TWICE, WEEK, any_values, bent_steps, done,
    is_tupled, joined_to, no_numbers, raised, repr_of, some_machines, some_steps, some_webs,
)

STEPS = (("do", 0, 0), ("meet", 0), ("do", 2, 1), ("meet", 1), ("meet", 2))


def lists_of(steps):
    return [list(step) for step in steps]


class StepsTest(unittest.TestCase):
    def fault(self, value, machine=WEEK, web=THREE):
        return raised(self, BadSteps, check_steps, machine, web, value)["at"]

    def test_as_tuples(self):
        for steps in ((), STEPS, STEPS * 80):
            for value in (steps, list(steps), lists_of(steps), tuple(lists_of(steps))):
                self.assertEqual(repr_of(check_steps(WEEK, THREE, value)), repr_of(steps))
        self.assertEqual(check_steps(machine=WEEK, web=THREE, value=[["meet", 2]]), (("meet", 2),))

    def test_how_many(self):
        self.assertEqual(len(check_steps(WEEK, THREE, [["meet", 2]] * 400)), 400)
        self.assertEqual(self.fault([["meet", 2]] * 401), -1)
        self.assertEqual(self.fault([None] * 401), -1)

    def test_houses_deeds_and_ties(self):
        one = Machine([(0,)])
        self.assertEqual(check_steps(one, LINE, (("do", 2, 0), ("meet", 1))), (("do", 2, 0), ("meet", 1)))
        self.assertEqual(self.fault((("meet", 1), ("do", 3, 0)), one, LINE), 1)
        self.assertEqual(self.fault((("do", 0, 0), ("do", 0, 1)), one, LINE), 1)
        self.assertEqual(self.fault((("meet", 0), ("meet", 1), ("meet", 2)), one, LINE), 2)
        self.assertEqual(self.fault((("meet", 0),), one, Web(1, [])), 0)
        self.assertEqual(check_steps(CLOCK, MOST_WEB, [("do", 11, 7), ("meet", 19)]), (("do", 11, 7), ("meet", 19)))

    def test_bent_at_each_item(self):
        for at in range(len(STEPS)):
            for bent in bent_steps(STEPS, at):
                self.assertEqual(self.fault(bent), at, bent[at])
                self.assertEqual(self.fault(list(bent) + [None]), at, bent[at])

    def test_any_value(self):
        for value in any_values():
            told = 0 if isinstance(value, (list, tuple)) else -1
            self.assertEqual(self.fault(value), told)
            self.assertEqual(self.fault([("do", value, 0)]), 0)
            self.assertEqual(self.fault([("do", 0, value)]), 0)
            self.assertEqual(self.fault([("meet", value)]), 0)
            self.assertEqual(self.fault([(value, 0)]), 0)
            self.assertEqual(self.fault([(value, 0, 0)]), 0)

    def test_where_steps_are_passed(self):
        for value in any_values() + bent_steps(STEPS, 1) + [[("meet", 0)] * 401]:
            at = raised(self, BadSteps, check_steps, WEEK, THREE, value)
            self.assertEqual(raised(self, BadSteps, standing_after, WEEK, THREE, 0, value), at)
            self.assertEqual(raised(self, BadSteps, truth_of, WEEK, THREE, 0, value, None), at)
            self.assertEqual(raised(self, NoState, standing_after, WEEK, THREE, 7, value), {"state": 7})
            self.assertEqual(raised(self, NoState, truth_of, WEEK, THREE, True, value, None), {"state": True})


class NetTest(unittest.TestCase):
    def test_first(self):
        net = Net(machine=WEEK, web=THREE, first=6)
        self.assertIs(net.machine, WEEK)
        self.assertIs(net.web, THREE)
        told = (net.first, net.states, net.archives, net.steps)
        self.assertEqual(repr_of(told), repr_of((6, (6, 6, 6), (6, 6, 6), ())))
        lone = Net(WEEK, Web(1, []), 0)
        self.assertEqual((lone.states, lone.archives), ((0,), ()))

    def test_step_by_step(self):
        rolls = random.Random(5)
        for machine in some_machines(25) + [WEEK, RING, MIXED, SWAP]:
            for web in some_webs(8) + [TWICE]:
                self.check(machine, web, rolls.randrange(machine.states), some_steps(web, machine.deeds, 25, rolls))

    def check(self, machine, web, first, steps):
        """A net against one that is kept by hand."""
        net = Net(machine, web, first)
        states, archives, through = [first] * web.houses, [first] * len(web.ties), []
        for step in steps:
            before = repr_of(net)
            try:
                if step[0] == "do":
                    states[step[1]] = machine.tables[step[2]][states[step[1]]]
                    self.assertEqual(repr_of(net.do(step[1], step[2])), repr_of(states[step[1]]))
                else:
                    one, other = web.ties[step[1]]
                    told = join(machine, archives[step[1]], states[one], states[other])
                    states[one] = states[other] = archives[step[1]] = told
                    self.assertEqual(net.meet(step[1]), told)
                through.append(step)
            except Untold as untold:
                told = raised(self, Untold, net.meet, step[1])
                self.assertEqual(told, vars(untold))
                self.assertEqual(repr_of(net), before)
            self.assertEqual(repr_of((net.states, net.archives, net.steps)),
                             repr_of((tuple(states), tuple(archives), tuple(through))))
        self.assertEqual(standing_after(machine, web, first, through), (tuple(states), tuple(archives)))

    def test_here_is_the_first_house_of_the_tie(self):
        wins = Machine([(1, 1, 2), (2, 1, 2)])
        for web, told in ((Web(2, [(0, 1)]), 1), (Web(2, [(1, 0)]), 2)):
            net = Net(wins, web, 0)
            self.assertEqual((net.do(0, 0), net.do(1, 1), net.meet(0)), (1, 2, told))
            self.assertEqual((net.states, net.archives), ((told, told), (told,)))

    def test_two_ties_of_one_pair(self):
        net = Net(WEEK, Web(2, [(0, 1), (0, 1)]), 6)
        self.assertEqual((net.do(house=1, deed=0), net.meet(tie=0), net.meet(1)), (0, 0, 1))
        self.assertEqual((net.states, net.archives), ((1, 1), (0, 1)))
        self.assertEqual(net.steps, (("do", 1, 0), ("meet", 0), ("meet", 1)))

    def test_a_meeting_that_is_not_told_changes_nothing(self):
        net = Net(TURN, Web(2, [(0, 1)]), 0)
        net.do(0, 0)
        net.do(1, 1)
        before = repr_of(net)
        self.assertEqual(raised(self, Untold, net.meet, 0), {"archive": 0, "here": 1, "there": 3})
        self.assertEqual(repr_of(net), before)
        self.assertEqual((net.do(1, 1), net.do(0, 1)), (0, 2))
        self.assertEqual((net.meet(0), net.states, net.archives), (2, (2, 2), (2,)))

    def test_any_value(self):
        net = Net(WEEK, THREE, 0)
        net.do(1, 1)
        net.meet(0)
        before = repr_of(net)
        for value in no_numbers() + [7]:
            self.assertIs(raised(self, NoState, Net, WEEK, THREE, value)["state"], value)
            self.assertIs(raised(self, NoHouse, net.do, value, value)["house"], value)
            self.assertIs(raised(self, NoDeed, net.do, 2, value)["deed"], value)
            self.assertIs(raised(self, NoTie, net.meet, value)["tie"], value)
            self.assertEqual(repr_of(net), before)
        self.assertEqual(raised(self, NoHouse, net.do, 3, 0), {"house": 3})
        self.assertEqual(raised(self, NoDeed, net.do, 0, 2), {"deed": 2})
        self.assertEqual(raised(self, NoTie, net.meet, 3), {"tie": 3})


class StandingTest(unittest.TestCase):
    def test_standings(self):
        told = standing_after(machine=WEEK, web=THREE, first=0, steps=lists_of(STEPS))
        self.assertEqual(repr_of(told), repr_of(((5, 4, 5), (1, 4, 5))))
        self.assertEqual(standing_after(WEEK, FIVE, 3, ()), ((3,) * 5, (3,) * 4))

    def test_untold(self):
        steps = (("do", 0, 0), ("do", 1, 1), ("meet", 0))
        told = raised(self, Untold, standing_after, TURN, Web(2, [(0, 1)]), 0, steps)
        self.assertEqual(told, {"archive": 0, "here": 1, "there": 3})
        bent = steps + (("meet", 1),)
        self.assertEqual(raised(self, BadSteps, standing_after, TURN, Web(2, [(0, 1)]), 0, bent), {"at": 3})

    def test_the_greatest(self):
        rolls = random.Random(2)
        steps = some_steps(MOST_WEB, 8, 400, rolls, 0.7)
        states, archives = standing_after(CLOCK, MOST_WEB, 0, steps)
        self.assertEqual((len(states), len(archives), is_tupled((states, archives))), (12, 20, True))
        raised(self, Untold, standing_after, MOST_MIXED, MOST_WEB, 0, steps)

    def test_any_value(self):
        for value in no_numbers() + [7]:
            self.assertIs(raised(self, NoState, standing_after, WEEK, THREE, value, value)["state"], value)


class TruthTest(unittest.TestCase):
    def test_deeds_of_the_part_in_their_order(self):
        rolls = random.Random(3)
        for machine in some_machines(20) + [TURN, SWAP]:
            for web in some_webs(10) + [FIVE]:
                first = rolls.randrange(machine.states)
                steps = some_steps(web, machine.deeds, 20, rolls)
                for house in range(web.houses):
                    part = joined_to(web, house)
                    row = [step[2] for step in steps if step[0] == "do" and step[1] in part]
                    told = truth_of(machine, web, first, steps, house)
                    self.assertEqual(told, done(machine, first, row))

    def test_joins_do_not_matter(self):
        steps = (("do", 0, 0), ("do", 1, 1), ("meet", 0))
        self.assertEqual(truth_of(machine=TURN, web=Web(2, [(0, 1)]), first=0, steps=lists_of(steps), house=1), 2)
        self.assertEqual(truth_of(SWAP, LINE, 2, (), 0), 2)
        self.assertEqual(truth_of(WEEK, THREE, 0, STEPS, 1), 4)

    def test_any_value(self):
        for value in no_numbers() + [3]:
            self.assertIs(raised(self, NoHouse, truth_of, WEEK, THREE, 0, STEPS, value)["house"], value)
            self.assertIs(raised(self, NoState, truth_of, SWAP, THREE, value, value, value)["state"], value)
            self.assertEqual(raised(self, BadSteps, truth_of, WEEK, THREE, 0, [value], value), {"at": 0})
