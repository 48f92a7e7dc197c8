"""[7]: commuting deeds and powers of rows."""

import unittest

from houseslessties.errors import BadRow, NoState, Uncommuting
from houseslessties.machines import Machine
from houseslessties.rows import commuting_paper, need_commuting, power_of
from tests.cases import (
    MOST_MACHINE, MOST_MIXED, WORN, all_rows, done, machines_of, no_numbers, raised, reached, some_machines,
)


def all_papers(machine, state):
    """All (state, one, other) that show that deeds do not commute, ascending."""
    deeds = range(machine.deeds)
    return [
        (at, one, other) for at, in sorted(reached(machine, state)) for one in deeds for other in deeds
        if done(machine, at, (one, other)) != done(machine, at, (other, one))
    ]


class CommutingTest(unittest.TestCase):
    def test_papers(self):
        for machine in machines_of(2, 2) + machines_of(3, 2)[::5] + some_machines(80):
            for state in range(machine.states):
                papers = all_papers(machine, state)
                self.assertEqual(commuting_paper(machine, state), papers[0] if papers else None)

    def test_need_commuting(self):
        for machine in machines_of(2, 2) + some_machines(80):
            for state in range(machine.states):
                paper = commuting_paper(machine, state)
                if paper is None:
                    self.assertIs(need_commuting(machine, state), machine)
                else:
                    told = raised(self, Uncommuting, need_commuting, machine, state)
                    self.assertEqual(told, dict(zip(("state", "one", "other"), paper)))

    def test_from_some_states_and_not_from_others(self):
        self.assertEqual(commuting_paper(WORN, 0), (0, 0, 1))
        self.assertEqual(commuting_paper(WORN, 1), (0, 0, 1))
        self.assertIsNone(commuting_paper(WORN, 2))
        self.assertIs(need_commuting(machine=WORN, state=3), WORN)
        self.assertIsNone(commuting_paper(machine=WORN, state=3))

    def test_the_least_of_several_papers(self):
        several = Machine([(1, 2, 0, 0), (1, 2, 0, 0), (0, 0, 3, 3), (2, 1, 3, 0)])
        papers = all_papers(several, 2)
        self.assertGreater(len(papers), 4)
        self.assertEqual(commuting_paper(several, 2), min(papers))
        self.assertEqual(min(papers), (0, 0, 2))

    def test_one_deed_commutes(self):
        for machine in machines_of(3, 1):
            self.assertIsNone(commuting_paper(machine, 0))

    def test_any_value(self):
        for value in no_numbers() + [4]:
            self.assertIs(raised(self, NoState, commuting_paper, WORN, value)["state"], value)
            self.assertIs(raised(self, NoState, need_commuting, WORN, value)["state"], value)

    def test_the_greatest_machines(self):
        self.assertIsNone(commuting_paper(MOST_MACHINE, 11))
        self.assertEqual(commuting_paper(MOST_MIXED, 11), all_papers(MOST_MIXED, 11)[0])


class PowerTest(unittest.TestCase):
    def test_powers(self):
        for machine in machines_of(3, 1) + some_machines(60):
            for state in range(machine.states):
                for row in all_rows(machine.deeds, 2):
                    self.check(machine, state, row)

    def check(self, machine, state, row):
        index, period = power_of(machine, state, row)
        ends = [done(machine, state, row * times) for times in range(2 * machine.states + 1)]
        same = [(later - early, early) for early in range(len(ends)) for later in range(early + 1, len(ends))
                if ends[early] == ends[later]]
        self.assertEqual(period, min(same)[0])
        self.assertEqual(index, min(early for _, early in same))
        self.assertEqual(ends[index], ends[index + period])

    def test_with_a_run_up_and_without(self):
        self.assertEqual(power_of(WORN, 0, (0,)), (2, 1))
        self.assertEqual(power_of(machine=WORN, state=0, row=[0, 1]), (0, 1))
        long = Machine([(1, 2, 3, 4, 5, 3)])
        self.assertEqual(power_of(long, 0, (0,)), (3, 3))
        self.assertEqual(power_of(long, 0, (0, 0)), (2, 3))
        self.assertEqual(power_of(long, 4, (0,)), (0, 3))
        self.assertEqual(power_of(long, 2, [0] * 3), (1, 1))

    def test_rows_with_no_deed(self):
        self.assertEqual(power_of(WORN, 0, ()), (0, 1))
        self.assertEqual(power_of(WORN, 3, []), (0, 1))

    def test_any_value(self):
        for value in no_numbers() + [4]:
            self.assertIs(raised(self, NoState, power_of, WORN, value, [7])["state"], value)
        for value, at in ((None, -1), ("01", -1), ([0, 2], 1), ((True,), 0), ([0] * 10001, -1), ([0, [0]], 1)):
            self.assertEqual(raised(self, BadRow, power_of, WORN, 0, value), {"at": at})

    def test_the_greatest(self):
        ring = Machine([[(state + deed) % 12 for state in range(12)] for deed in range(8)])
        self.assertEqual(power_of(ring, 5, [1] * 401), (0, 12))
        self.assertEqual(power_of(ring, 5, [1] * 10000), (0, 3))
