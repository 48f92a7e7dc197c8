"""[1], [2], [3], [14], [15]: orbits as tables, and ways back."""

import itertools
import unittest

from houseslessties.errors import NoState, Refused
from houseslessties.joins import is_telling, join
from houseslessties.machines import Machine, orbit
from houseslessties.orbits import group_paper, inverse_of, is_exchanging, orbit_table, turned_join
from houseslessties.rows import commuting_paper
from tests.cases import (
    MOST_MACHINE, MOST_MIXED, RING, STEPS, SWAP, TURN, WORN, is_tupled, machines_of, no_numbers, raised, reached,
    some_machines,
)

# 0 is the unit of the turnings of three things in a row: deed 0 turns them on, deed 1 takes the first two for each other.
TURNINGS = Machine([(1, 2, 0, 5, 3, 4), (3, 4, 5, 0, 1, 2)])
WINS = Machine([(1, 1, 2), (2, 1, 2)])
FUNCTIONS = (
    (orbit_table, ()), (is_exchanging, ()), (group_paper, ()), (inverse_of, (None,)), (turned_join, (None, [], "")),
)


def telling_ones():
    """(machine, state) for machines that tell."""
    machines = machines_of(2, 2) + machines_of(3, 1) + machines_of(3, 2)[::7] + some_machines(80)
    machines += [RING, TURNINGS, WINS, Machine([(0,)]), Machine([(1, 2, 3, 4, 5, 3)])]
    return [(machine, state) for machine in machines for state in range(machine.states) if is_telling(machine, state)]


TELLING = telling_ones()


class RefusedTest(unittest.TestCase):
    def test_machines_that_do_not_tell(self):
        for machine in (TURN, STEPS, SWAP, MOST_MIXED):
            for function, rest in FUNCTIONS:
                self.assertEqual(raised(self, Refused, function, machine, 0, *rest), {"at": 0})
        self.assertEqual(raised(self, Refused, inverse_of, TURN, 3, 4), {"at": 3})
        self.assertEqual(raised(self, Refused, turned_join, TURN, 2, 9, 9, 9), {"at": 2})

    def test_it_is_the_state_that_tells_or_not(self):
        self.assertEqual(raised(self, Refused, orbit_table, WORN, 0), {"at": 0})
        self.assertEqual(orbit_table(WORN, 3), ((3,), ((3,),)))

    def test_any_value(self):
        for machine in (TURN, RING):
            for value in no_numbers() + [4]:
                for function, rest in FUNCTIONS:
                    self.assertIs(raised(self, NoState, function, machine, value, *rest)["state"], value)


class TableTest(unittest.TestCase):
    def test_tables(self):
        for machine, state in TELLING:
            states, table = orbit_table(machine, state)
            self.assertEqual(states, orbit(machine, state))
            self.assertEqual(len(table), len(states))
            for here, row in zip(states, table):
                self.assertEqual(row, tuple(join(machine, state, here, there) for there in states))
            self.assertTrue(is_tupled((states, table)))

    def test_unit_brackets_and_deeds(self):
        for machine, state in TELLING:
            states, table = orbit_table(machine, state)
            joins = {(here, there): table[i][j] for i, here in enumerate(states) for j, there in enumerate(states)}
            for one in states:
                self.assertEqual((joins[one, state], joins[state, one]), (one, one))
                for deed in range(machine.deeds):
                    self.assertEqual(joins[one, machine.tables[deed][state]], machine.tables[deed][one])
            for one, other, third in itertools.product(states, repeat=3):
                self.assertEqual(joins[joins[one, other], third], joins[one, joins[other, third]])

    def test_a_table_by_states(self):
        self.assertEqual(orbit_table(machine=WINS, state=0), ((0, 1, 2), ((0, 1, 2), (1, 1, 1), (2, 2, 2))))
        self.assertEqual(orbit_table(Machine([(0, 3, 2, 1)]), 1), ((1, 3), ((1, 3), (3, 1))))
        joins = tuple(tuple((here + there - 1) % 4 for there in range(4)) for here in range(4))
        self.assertEqual(orbit_table(RING, 1), ((0, 1, 2, 3), joins))

    def test_exchanging(self):
        kinds = {True: 0, False: 0}
        for machine, state in TELLING:
            table = orbit_table(machine, state)[1]
            same = all(table[i][j] == table[j][i] for i in range(len(table)) for j in range(len(table)))
            told = is_exchanging(machine, state)
            self.assertIs(told, same)
            self.assertIs(told, commuting_paper(machine, state) is None)
            kinds[told] += 1
        self.assertGreater(min(kinds.values()), 5)
        self.assertIs(is_exchanging(machine=RING, state=0), True)
        self.assertIs(is_exchanging(TURNINGS, 0), False)

    def test_the_greatest_machine(self):
        states, table = orbit_table(MOST_MACHINE, 0)
        self.assertEqual((states, len(table), len(table[11])), (tuple(range(12)), 12, 12))
        self.assertTrue(is_exchanging(MOST_MACHINE, 0))


class WaysBackTest(unittest.TestCase):
    def test_group_papers(self):
        kinds = {}
        for machine, state in TELLING:
            lost = [one for one in orbit(machine, state) if (state,) not in reached(machine, one)]
            told = group_paper(machine, state)
            self.assertEqual(told, ("lost", lost[0]) if lost else None)
            kinds[told is None, len(lost) > 1] = True
        self.assertEqual(len(kinds), 3)

    def test_the_least_lost_state(self):
        self.assertEqual(group_paper(machine=Machine([(1, 2, 2)]), state=0), ("lost", 1))
        self.assertEqual(group_paper(Machine([(0, 0, 1, 1)]), 2), ("lost", 0))
        self.assertIsNone(group_paper(Machine([(0, 0, 1, 1)]), 0))
        self.assertIsNone(group_paper(TURNINGS, 0))

    def test_inverses(self):
        for machine, state in TELLING:
            for one in range(machine.states):
                inverses = [there for there in orbit(machine, state)
                            if one in orbit(machine, state) and join(machine, state, one, there) == state]
                if inverses:
                    self.assertEqual([inverse_of(machine, state, one)], inverses)
                else:
                    self.assertEqual(raised(self, Refused, inverse_of, machine, state, one), {"at": one})
            if group_paper(machine, state) is None:
                for one in orbit(machine, state):
                    inverse_of(machine, state, one)

    def test_states_without_an_inverse_or_not_of_the_orbit(self):
        run_up = Machine([(1, 2, 2, 3)])
        self.assertEqual(inverse_of(machine=run_up, state=0, one=0), 0)
        self.assertEqual(raised(self, Refused, inverse_of, run_up, 0, 1), {"at": 1})
        self.assertEqual(raised(self, Refused, inverse_of, run_up, 0, 3), {"at": 3})
        self.assertEqual(raised(self, Refused, turned_join, run_up, 0, 2, None, None), {"at": 2})
        self.assertEqual(raised(self, Refused, turned_join, run_up, 0, 3, None, None), {"at": 3})
        self.assertEqual(inverse_of(RING, 0, 1), 3)
        self.assertEqual([inverse_of(TURNINGS, 0, one) for one in range(6)], [0, 2, 1, 3, 4, 5])

    def test_turned_joins_are_the_joins_where_they_are_defined(self):
        seen = 0
        for machine, state in TELLING[::3] + [(TURNINGS, 0)]:
            states = orbit(machine, state)
            for archive in [one for one in states if self.has_inverse(machine, state, one)]:
                for here, there in itertools.product(states, repeat=2):
                    told = turned_join(machine, state, archive, here, there)
                    self.assertEqual(told, join(machine, archive, here, there))
                    inverse = inverse_of(machine, state, archive)
                    back = join(machine, state, inverse, there)
                    self.assertEqual(told, join(machine, state, here, back))
                    seen += 1
        self.assertGreater(seen, 100)
        self.assertEqual(turned_join(machine=RING, state=0, archive=3, here=1, there=2), 0)

    def has_inverse(self, machine, state, one):
        return any(join(machine, state, one, there) == state for there in orbit(machine, state))

    def test_any_value(self):
        for value in no_numbers() + [4]:
            self.assertIs(raised(self, NoState, inverse_of, RING, 0, value)["state"], value)
            self.assertIs(raised(self, NoState, turned_join, RING, 0, value, None, None)["state"], value)
            self.assertIs(raised(self, NoState, turned_join, RING, 0, 1, value, None)["state"], value)
            self.assertIs(raised(self, NoState, turned_join, RING, 0, 1, 2, value)["state"], value)

    def test_no_states_are_told_ahead_of_joins(self):
        apart = Machine([(1, 0, 3, 4, 2)])
        self.assertEqual(raised(self, NoState, turned_join, apart, 0, 1, 2, 5), {"state": 5})
        self.assertEqual(raised(self, NoState, turned_join, apart, 0, 1, 5, 6), {"state": 5})
