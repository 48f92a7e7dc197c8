"""[1], [2], [3], [5], [6]: machines, states, deeds, rows and orbits."""

import unittest

from houseslessties.errors import BadMachine, BadRow, NoDeed, NoState
from houseslessties.machines import Machine, check_row, led, need_deed, need_state, orbit
from tests.cases import (
    MOST_MACHINE, WORN, all_rows, any_values, done, is_tupled, machines_of, nested, no_numbers, raised, reached,
    repr_of, some_machines,
)


class MachineTest(unittest.TestCase):
    def fault(self, tables):
        return raised(self, BadMachine, Machine, tables)["at"]

    def test_attributes(self):
        machine = Machine([[1, 2, 2, 3], (0, 0, 2, 3)])
        self.assertEqual((machine.deeds, machine.states), (2, 4))
        self.assertEqual(machine.tables, ((1, 2, 2, 3), (0, 0, 2, 3)))
        self.assertTrue(is_tupled(machine.tables))
        self.assertEqual(Machine(tables=((0,),)).tables, ((0,),))

    def test_how_many_tables(self):
        self.assertEqual(self.fault([]), -1)
        self.assertEqual(self.fault(()), -1)
        self.assertEqual(Machine([(0,)]).deeds, 1)
        self.assertEqual(Machine([[0]] * 8).deeds, 8)
        self.assertEqual(self.fault([[0]] * 9), -1)
        self.assertEqual(self.fault([None] * 9), -1)

    def test_how_many_states(self):
        self.assertEqual(self.fault([()]), 0)
        self.assertEqual(self.fault([(), ()]), 0)
        self.assertEqual(Machine([(0,), (0,)]).states, 1)
        self.assertEqual(Machine([list(range(12))]).states, 12)
        self.assertEqual(self.fault([list(range(13))]), 0)
        self.assertEqual(self.fault([[0] * 13, [0] * 13]), 0)

    def test_tables_of_unlike_length(self):
        self.assertEqual(self.fault([(0, 1), (0, 1, 1)]), 1)
        self.assertEqual(self.fault([(0, 1), (0, 1), (0,)]), 2)
        self.assertEqual(self.fault([(0, 1), (), (0,)]), 1)

    def test_next_states_that_are_none(self):
        for value in any_values():
            self.assertEqual(self.fault([(0, 1), (0, value)]), 1)
            self.assertEqual(self.fault([(value, 0), (0, 1)]), 0)
        self.assertEqual(self.fault([(0, 2)]), 0)
        self.assertEqual(self.fault([(0, 1), (2, 0)]), 1)
        self.assertEqual(self.fault([(0, -1)]), 0)
        self.assertEqual(self.fault([(0, True)]), 0)
        self.assertEqual(self.fault([(False,)]), 0)

    def test_the_first_of_several_wrong_items_is_told(self):
        self.assertEqual(self.fault([(0, 1), (0, 1), (0, 2), None, (0,)]), 2)
        self.assertEqual(self.fault([(0, 5), (0, 1), (0, 2)]), 0)
        self.assertEqual(self.fault([(0,) * 13, (0, 5)]), 0)

    def test_any_value(self):
        for value in any_values():
            if isinstance(value, (list, tuple)) and value:
                self.assertEqual(self.fault(value), 0)
            else:
                self.assertEqual(self.fault(value), -1)
            self.assertEqual(self.fault([(0, 1), value]), 1)

    def test_later_changes_have_no_effect(self):
        tables = [[1, 0], [0, 0]]
        machine = Machine(tables)
        tables[0][0] = 0
        tables.append([1, 1])
        self.assertEqual(machine.tables, ((1, 0), (0, 0)))
        self.assertEqual(tables, [[0, 0], [0, 0], [1, 1]])

    def test_equal(self):
        self.assertTrue(Machine([(1, 0)]) == Machine([[1, 0]]))
        self.assertFalse(Machine([(1, 0)]) != Machine([[1, 0]]))
        self.assertTrue(Machine([(1, 0)]) != Machine([(0, 0)]))
        self.assertFalse(Machine([(1, 0)]) == Machine([(1, 0), (1, 0)]))
        for value in any_values() + [((1, 0),), [[1, 0]]]:
            self.assertFalse(Machine([(1, 0), (0, 1)]) == value)
            self.assertTrue(Machine([(1, 0), (0, 1)]) != value)

    def test_the_greatest_machine(self):
        self.assertEqual((MOST_MACHINE.states, MOST_MACHINE.deeds), (12, 8))
        self.assertEqual(orbit(MOST_MACHINE, 0), tuple(range(12)))
        self.assertEqual(led(MOST_MACHINE, 0, [0, 7] * 200), done(MOST_MACHINE, 0, [0, 7] * 200))


class StatesAndDeedsTest(unittest.TestCase):
    def test_themselves(self):
        self.assertEqual([need_state(WORN, state) for state in range(4)], [0, 1, 2, 3])
        self.assertEqual([need_deed(WORN, deed) for deed in range(2)], [0, 1])
        self.assertEqual(need_state(machine=WORN, state=3), 3)
        self.assertEqual(need_deed(machine=WORN, deed=1), 1)

    def test_any_value(self):
        for value in no_numbers() + [4, 5, 12]:
            self.assertIs(raised(self, NoState, need_state, WORN, value)["state"], value)
            self.assertIs(raised(self, NoState, orbit, WORN, value)["state"], value)
            self.assertIs(raised(self, NoState, led, WORN, value, [9])["state"], value)
            self.assertIs(raised(self, NoDeed, need_deed, WORN, value)["deed"], value)
        self.assertEqual(raised(self, NoDeed, need_deed, WORN, 2), {"deed": 2})


class RowsTest(unittest.TestCase):
    def fault(self, value, machine=WORN):
        told = raised(self, BadRow, check_row, machine, value)
        self.assertEqual(raised(self, BadRow, led, machine, 0, value), told)
        return told["at"]

    def test_rows_as_tuples(self):
        self.assertEqual(repr_of(check_row(WORN, [0, 1, 1])), repr_of((0, 1, 1)))
        self.assertEqual(repr_of(check_row(machine=WORN, value=())), repr_of(()))
        row = [1, 0]
        kept = check_row(WORN, row)
        row.append(1)
        self.assertEqual((kept, row), ((1, 0), [1, 0, 1]))

    def test_lengths(self):
        self.assertEqual(check_row(WORN, []), ())
        self.assertEqual(check_row(WORN, [1] * 10000), (1,) * 10000)
        self.assertEqual(led(WORN, 0, [0, 1] * 5000), done(WORN, 0, [0, 1] * 5000))
        self.assertEqual(self.fault([1] * 10001), -1)
        self.assertEqual(self.fault((None,) * 10001), -1)

    def test_the_first_of_several_wrong_items_is_told(self):
        self.assertEqual(self.fault([2]), 0)
        self.assertEqual(self.fault([0, 1, -1, 5]), 2)
        self.assertEqual(self.fault([0] * 9999 + [2]), 9999)
        self.assertEqual(self.fault([0, True]), 1)
        self.assertEqual(self.fault([False, 9]), 0)

    def test_any_value(self):
        for value in any_values():
            if isinstance(value, (list, tuple)):
                wrong = [at for at, item in enumerate(value) if repr_of(item) not in ("0x0", "0x1")]
                self.assertEqual(self.fault(value), wrong[0])
            else:
                self.assertEqual(self.fault(value), -1)
            self.assertEqual(self.fault([0, 1, value, 7]), 2)
        self.assertEqual(self.fault(nested(40)), 0)

    def test_where_rows_lead(self):
        for machine in some_machines(40):
            for state in range(machine.states):
                for row in all_rows(machine.deeds, 3):
                    self.assertEqual(led(machine, state, list(row)), done(machine, state, row))
        self.assertEqual(led(machine=WORN, state=0, row=(0, 1, 0)), 1)
        self.assertEqual(led(WORN, 3, ()), 3)

    def test_the_state_is_looked_at_ahead_of_the_row(self):
        self.assertEqual(raised(self, NoState, led, WORN, 4, None), {"state": 4})
        self.assertEqual(raised(self, BadRow, led, WORN, 3, [2]), {"at": 0})


class OrbitTest(unittest.TestCase):
    def test_orbits(self):
        for machine in machines_of(3, 1) + some_machines(60):
            for state in range(machine.states):
                told = orbit(machine, state)
                self.assertEqual(told, tuple(sorted(end for end, in reached(machine, state))))
                self.assertIn(state, told)
                self.assertIs(type(told), tuple)
        self.assertEqual(orbit(machine=WORN, state=0), (0, 1, 2))
        self.assertEqual(orbit(WORN, 3), (3,))
        self.assertEqual(orbit(Machine([(0,)]), 0), (0,))
