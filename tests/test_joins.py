"""[1], [2], [3], [11], [12], [13], [16]: joins, why they are untold, machines that tell, several that come home."""

import itertools
import unittest

from houseslessties.errors import NoState, Untold
from houseslessties.joins import is_telling, join, joined_all, telling_holds, telling_paper, untold_rows
from houseslessties.machines import Machine, check_row, orbit
from houseslessties.rows import commuting_paper
from tests.cases import (
    MOST_MACHINE, MOST_MIXED, RING, STEPS, SWAP, TURN, WORN, all_rows, any_values, done, is_tupled, machines_of, nested,
    no_numbers, raised, reached, some_machines,
)

SOME = machines_of(2, 2) + machines_of(3, 1) + machines_of(3, 2)[::23] + some_machines(60)


def triples(machine):
    return itertools.product(range(machine.states), repeat=3)


def ends_of(machine, archive, here, there):
    """Where the rows that lead the archive there lead the state here."""
    return {end for at, end in reached(machine, archive, here) if at == there}


def tells(machine, state):
    """Whether a machine tells from a state, by each join of its orbit, not only behind one deed."""
    return all(
        len(ends_of(machine, archive, here, there)) == 1
        for archive, in reached(machine, state)
        for here, in reached(machine, archive)
        for there, in reached(machine, archive)
    )


def is_untold_paper(machine, state, value):
    """Whether a paper is one of [13], for papers of this form."""
    word, archive, deed, one, other = value
    here = machine.tables[deed][archive]
    return (
        word == "untold" and (archive,) in reached(machine, state) and max(len(one), len(other)) <= 200
        and check_row(machine, one) == one and check_row(machine, other) == other
        and done(machine, archive, one) == done(machine, archive, other)
        and done(machine, here, one) != done(machine, here, other)
    )


class JoinTest(unittest.TestCase):
    def test_joins(self):
        kinds = {0: 0, 1: 0, 2: 0}
        for machine in SOME:
            for archive, here, there in triples(machine):
                ends = ends_of(machine, archive, here, there)
                kinds[min(len(ends), 2)] += 1
                if len(ends) == 1:
                    self.assertEqual(join(machine, archive, here, there), min(ends))
                else:
                    told = raised(self, Untold, join, machine, archive, here, there)
                    self.assertEqual(told, {"archive": archive, "here": here, "there": there})
        self.assertGreater(min(kinds.values()), 100)

    def test_told_and_untold_in_both_ways(self):
        self.assertEqual(join(RING, 3, 1, 2), 0)
        self.assertEqual(join(machine=RING, archive=1, here=0, there=2), 1)
        self.assertEqual(raised(self, Untold, join, WORN, 1, 1, 3), {"archive": 1, "here": 1, "there": 3})
        self.assertEqual(raised(self, Untold, join, TURN, 0, 1, 3), {"archive": 0, "here": 1, "there": 3})

    def test_a_state_here_to_which_no_row_leads_the_archive(self):
        apart = Machine([(1, 0, 3, 4, 2)])
        self.assertEqual(join(apart, 0, 0, 1), 1)
        self.assertEqual(raised(self, Untold, join, apart, 0, 2, 1), {"archive": 0, "here": 2, "there": 1})
        self.assertEqual(join(Machine([(1, 0, 3, 2)]), 0, 2, 1), 3)
        self.assertEqual(join(WORN, 0, 3, 2), 3)

    def test_any_value(self):
        for value in no_numbers() + [4]:
            for function in (join, untold_rows):
                self.assertIs(raised(self, NoState, function, RING, value, None, [])["state"], value)
                self.assertIs(raised(self, NoState, function, RING, 0, value, [])["state"], value)
                self.assertIs(raised(self, NoState, function, RING, 0, 3, value)["state"], value)

    def test_the_greatest_machines(self):
        for archive in range(12):
            for here, there in itertools.product(orbit(MOST_MACHINE, archive), repeat=2):
                ends = ends_of(MOST_MACHINE, archive, here, there)
                self.assertEqual({join(MOST_MACHINE, archive, here, there)}, ends)
        self.assertEqual(raised(self, Untold, join, MOST_MIXED, 0, 3, 5), {"archive": 0, "here": 3, "there": 5})


class UntoldRowsTest(unittest.TestCase):
    def test_the_first_rows(self):
        kinds = {}
        for machine in machines_of(2, 2) + machines_of(3, 1) + machines_of(3, 2)[::23]:
            rows = all_rows(machine.deeds, machine.states ** 2 - 1)
            for archive, here, there in triples(machine):
                told = untold_rows(machine, archive, here, there)
                self.assertEqual(told, self.by_all_rows(machine, rows, archive, here, there))
                self.assertTrue(is_tupled(told))
                kinds[told and told[0]] = True
        self.assertEqual(set(kinds), {None, "none", "rows"})

    def by_all_rows(self, machine, rows, archive, here, there):
        """No pair of states needs a row of as many deeds as there are pairs."""
        ones = [row for row in rows if done(machine, archive, row) == there]
        if not ones:
            return ("none",)
        others = [row for row in ones if done(machine, here, row) != done(machine, here, ones[0])]
        return ("rows", ones[0], others[0]) if others else None

    def test_in_both_ways(self):
        self.assertEqual(untold_rows(TURN, 0, 1, 3), ("rows", (1,), (0, 0, 0)))
        self.assertEqual(untold_rows(TURN, 0, 1, 2), ("rows", (0, 0), (0, 1)))
        self.assertEqual(untold_rows(machine=WORN, archive=1, here=1, there=3), ("none",))
        self.assertIsNone(untold_rows(RING, 3, 1, 2))
        self.assertEqual(untold_rows(SWAP, 0, 1, 0), ("rows", (), (1,)))

    def test_it_goes_with_join(self):
        for machine in SOME + [MOST_MIXED]:
            for archive, here, there in list(triples(machine))[:200]:
                paper = untold_rows(machine, archive, here, there)
                if paper is None:
                    join(machine, archive, here, there)
                else:
                    raised(self, Untold, join, machine, archive, here, there)


class TellingTest(unittest.TestCase):
    def test_whether_it_tells(self):
        kinds = {True: 0, False: 0}
        for machine in SOME:
            for state in range(machine.states):
                told = is_telling(machine, state)
                self.assertIs(told, tells(machine, state))
                kinds[told] += 1
        self.assertGreater(min(kinds.values()), 50)
        self.assertIs(is_telling(machine=TURN, state=0), False)

    def test_papers_told_are_held(self):
        for machine in SOME + [MOST_MIXED, TURN, STEPS]:
            for state in range(machine.states):
                paper = telling_paper(machine, state)
                self.assertIs(paper is None, is_telling(machine, state))
                if paper is not None:
                    self.assertTrue(is_tupled(paper))
                    self.assertTrue(is_untold_paper(machine, state, paper))
                    self.assertIs(telling_holds(machine, state, paper), True)
                    lists = [paper[0], paper[1], paper[2], list(paper[3]), list(paper[4])]
                    self.assertIs(telling_holds(machine, state, lists), True)

    def test_commuting_deeds_tell(self):
        for machine in SOME:
            for state in range(machine.states):
                if commuting_paper(machine, state) is None:
                    self.assertIsNone(telling_paper(machine, state))
        self.assertTrue(is_telling(MOST_MACHINE, 0))

    def test_telling_of_deeds_behind_others(self):
        for machine in machines_of(2, 2) + machines_of(3, 2)[::40]:
            rows = all_rows(machine.deeds, 3)
            for state in [state for state in range(machine.states) if is_telling(machine, state)]:
                for one, other in itertools.product(rows, repeat=2):
                    if done(machine, state, one) == done(machine, state, other):
                        for ahead in rows[:7]:
                            self.assertEqual(done(machine, state, ahead + one), done(machine, state, ahead + other))

    def test_papers_that_hold(self):
        all_papers = [
            ("untold", archive, deed, one, other) for archive in range(3) for deed in range(2)
            for one in all_rows(2, 2) for other in all_rows(2, 2)
        ]
        for machine in machines_of(3, 2)[::37] + [STEPS, SWAP]:
            for state in range(machine.states):
                for paper in all_papers:
                    held = telling_holds(machine, state, paper)
                    self.assertIs(held, is_untold_paper(machine, state, paper))
        self.assertTrue(telling_holds(machine=STEPS, state=0, value=("untold", 0, 0, (), (1,))))

    def test_rows_of_200_deeds(self):
        two = Machine([(0, 1, 2), (1, 2, 0), (1, 0, 2)])
        one, other = (1,), (2,)
        self.assertIs(telling_holds(two, 0, ("untold", 0, 1, one, other)), True)
        for long, held in ((199, True), (200, False), (201, False)):
            self.assertIs(telling_holds(two, 0, ("untold", 0, 1, one + (0,) * long, other)), held)
            self.assertIs(telling_holds(two, 0, ["untold", 0, 1, one, [0] * long + [2]]), held)

    def test_papers_bent_at_each_item(self):
        paper = ("untold", 0, 0, (), (1,))
        self.assertTrue(telling_holds(STEPS, 0, paper))
        for at in range(5):
            for value in any_values() + ["Untold", "rows", 3, 2, (0,), [0], (1, 2), (True,), [1, None], "1", (1, "0")]:
                bent = paper[:at] + (value,) + paper[at + 1:]
                if not (at == 0 and value == "untold"):
                    self.assertIs(telling_holds(STEPS, 0, bent), False, (at, value))
        for bent in (paper[:4], paper + (0,), paper[1:], (paper,), [paper], ()):
            self.assertIs(telling_holds(STEPS, 0, bent), False)

    def test_bools_are_no_numbers_in_a_paper(self):
        self.assertIs(telling_holds(STEPS, 0, ("untold", False, 0, (), (1,))), False)
        self.assertIs(telling_holds(STEPS, 0, ("untold", 0, False, (), (1,))), False)
        self.assertIs(telling_holds(STEPS, 0, ("untold", 0, 0, (), (True,))), False)
        self.assertIs(telling_holds(STEPS, 0, ("untold", 0, 0, [], [1])), True)

    def test_an_archive_that_is_not_of_the_orbit(self):
        self.assertTrue(telling_holds(WORN, 0, ("untold", 0, 0, (), (1,))))
        self.assertFalse(telling_holds(WORN, 2, ("untold", 0, 0, (), (1,))))

    def test_any_value(self):
        for value in no_numbers() + [nested(40), 0, 1]:
            for machine, state in ((TURN, 0), (RING, 3), (WORN, 3), (SWAP, 1)):
                self.assertIs(telling_holds(machine, state, value), False)
        for value in no_numbers() + [4]:
            self.assertIs(raised(self, NoState, telling_paper, TURN, value)["state"], value)
            self.assertIs(raised(self, NoState, is_telling, TURN, value)["state"], value)
            self.assertIs(raised(self, NoState, telling_holds, TURN, value, None)["state"], value)


class JoinedAllTest(unittest.TestCase):
    def test_one_behind_another(self):
        for machine in SOME:
            for archive in range(machine.states):
                states = [state for state in range(machine.states)] * 2
                here = archive
                untold = None
                for there in states:
                    ends = ends_of(machine, archive, here, there)
                    if len(ends) != 1:
                        untold = {"archive": archive, "here": here, "there": there}
                        break
                    here = min(ends)
                if untold is None:
                    self.assertEqual(joined_all(machine, archive, states), here)
                else:
                    self.assertEqual(raised(self, Untold, joined_all, machine, archive, states), untold)

    def test_it_is_all_deeds_one_behind_another(self):
        for machine in machines_of(2, 2) + machines_of(3, 2)[::40]:
            rows = all_rows(machine.deeds, 2)
            for state in [state for state in range(machine.states) if is_telling(machine, state)]:
                for chosen in itertools.product(rows, repeat=3):
                    ends = [done(machine, state, row) for row in chosen]
                    self.assertEqual(joined_all(machine, state, ends), done(machine, state, sum(chosen, ())))

    def test_none_and_several(self):
        self.assertEqual(joined_all(RING, 1, ()), 1)
        self.assertEqual(joined_all(machine=TURN, archive=2, states=[]), 2)
        self.assertEqual(joined_all(RING, 1, [2]), 2)
        self.assertEqual(joined_all(RING, 1, (2, 3, 0)), 3)
        self.assertEqual(joined_all(RING, 0, [3] * 400), 3 * 400 % 4)
        self.assertEqual(joined_all(MOST_MACHINE, 0, [11, 7] * 200), joined_all(MOST_MACHINE, 0, (11, 7) * 200))

    def test_an_untold_one_in_the_middle(self):
        # Home at 0, one comes back from 1: the home is at 1; then from 2 by deeds 0, 0 or by 0, 1.
        told = {"archive": 0, "here": 1, "there": 2}
        self.assertEqual(raised(self, Untold, joined_all, TURN, 0, (1, 2, 3)), told)
        self.assertEqual(raised(self, Untold, joined_all, TURN, 0, [1, 2, 4, None]), told)
        self.assertEqual(raised(self, NoState, joined_all, TURN, 0, [1, 4, 2]), {"state": 4})
        self.assertEqual(raised(self, Untold, joined_all, WORN, 1, [1, 3]), {"archive": 1, "here": 1, "there": 3})

    def test_any_value(self):
        for value in no_numbers() + [4]:
            self.assertIs(raised(self, NoState, joined_all, RING, value, [None])["state"], value)
            self.assertIs(raised(self, NoState, joined_all, RING, 0, [0, 3, value])["state"], value)
            self.assertIs(raised(self, NoState, joined_all, RING, 0, (value, None))["state"], value)
