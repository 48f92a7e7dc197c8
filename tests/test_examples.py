"""The examples of the document."""

import doctest
import pathlib
import unittest

MACHINES_ROWS_AND_WEBS = """
    >>> from houseslessties.machines import Machine, led, orbit
    >>> from houseslessties.rows import commuting_paper, power_of
    >>> from houseslessties.webs import Web, is_forest, parts_of, ring_paper, rings_of
    >>> worn = Machine([(1, 2, 2, 3), (0, 0, 2, 3)])
    >>> led(worn, 0, (0, 1, 0)), orbit(worn, 0), power_of(worn, 0, (0,)), commuting_paper(worn, 0)
    (1, (0, 1, 2), (2, 1), (0, 0, 1))
    >>> web = Web(5, [(0, 1), (1, 2), (2, 0), (3, 4)])
    >>> parts_of(web), rings_of(web, (0, 1, 2)), is_forest(web), ring_paper(web)
    (((0, 1, 2), (3, 4)), 1, False, (0, 1, 2))
"""

JOINS_AND_ORBITS = """
    >>> from houseslessties.joins import is_telling, join, joined_all, telling_holds, telling_paper, untold_rows
    >>> from houseslessties.machines import Machine
    >>> from houseslessties.orbits import group_paper, inverse_of, is_exchanging, orbit_table, turned_join
    >>> turn = Machine([(1, 2, 3, 0), (3, 2, 1, 0)])
    >>> is_telling(turn, 0), untold_rows(turn, 0, 1, 3), untold_rows(turn, 0, 1, 2)
    (False, ('rows', (1,), (0, 0, 0)), ('rows', (0, 0), (0, 1)))
    >>> ring = Machine([(1, 2, 3, 0), (2, 3, 0, 1)])
    >>> join(ring, 3, 1, 2), joined_all(ring, 1, (2, 3, 0)), inverse_of(ring, 0, 1), turned_join(ring, 0, 3, 1, 2)
    (0, 3, 3, 0)
    >>> orbit_table(ring, 0)[1], is_exchanging(ring, 0), group_paper(ring, 0)
    (((0, 1, 2, 3), (1, 2, 3, 0), (2, 3, 0, 1), (3, 0, 1, 2)), True, None)
    >>> steps = Machine([(1, 2, 2), (0, 0, 0)])
    >>> telling_holds(steps, 0, ("untold", 0, 0, (), (1,))), group_paper(Machine([(1, 2, 2)]), 0)
    (True, ('lost', 1))
"""

TRAVELLERS = """
    >>> from houseslessties.machines import Machine
    >>> from houseslessties.travellers import Traveller, all_marks, brought_behind, come_home, enough_home, home_states, marks_paper, needed_marks
    >>> swap = Machine([(1, 0, 2), (0, 2, 1)])
    >>> all_marks(swap, 0), all_marks(swap, 0, home=0), all_marks(swap, 0, out=2), needed_marks(swap, 0, 2, home=1)
    ((2, 2, 2), (1, 1, 1), (2, 2, 1), 2)
    >>> home_states(swap, 0, home=1), enough_home(swap, 0), marks_paper(swap, 0, home=1, out=1)
    ((0, 1), 1, ('rows', (0,), (), (1,)))
    >>> traveller = Traveller(swap, 0)
    >>> traveller.do(1), traveller.do(0), come_home(swap, 0, 2, (1, 1)), come_home(swap, 0, 2, (1, 0))
    ((0, 1), (1, 1), 0, 2)
    >>> brought_behind(swap, 0, (1, 1), (0, 1))
    (2, 1)
"""

NETS_AND_BOOKS = """
    >>> from houseslessties.machines import Machine
    >>> from houseslessties.webs import Web
    >>> from houseslessties.books import counts_after, first_twice, harmless_period, led_times, plain_state, run_harm, safe_ties
    >>> from houseslessties.books import heard_after, twice_run, wrong_run
    >>> from houseslessties.nets import Net, standing_after, truth_of
    >>> week = Machine([(1, 2, 3, 4, 5, 6, 0), (3, 4, 5, 6, 0, 1, 2)])
    >>> ring = Web(3, [(0, 1), (1, 2), (2, 0)])
    >>> steps = (("do", 0, 0), ("meet", 0), ("do", 2, 1), ("meet", 1), ("meet", 2))
    >>> counts_after(ring, steps)
    (((2, 1), (1, 1), (2, 1)), ((1, 0), (1, 1), (2, 1)))
    >>> standing_after(week, ring, 0, steps), truth_of(week, ring, 0, steps, 1), plain_state(week, ring, 0, steps, 2)
    (((5, 4, 5), (1, 4, 5)), 4, 4)
    >>> first_twice(ring, steps), safe_ties(ring, steps[:4]), heard_after(ring, steps[:2]), run_harm(ring, steps)
    ((4, 0), (0, 1), (((0,), (0,), ()), ((0,), (), ())), 1)
    >>> harmless_period(week, 0), led_times(week, 0, (0, 1), 10 ** 30), len(twice_run(ring)), wrong_run(Machine([(1, 1)]), ring, 0)
    (7, 4, 4, None)
    >>> net = Net(week, Web(2, [(0, 1), (0, 1)]), 6)
    >>> net.do(1, 0), net.meet(0), net.meet(1), net.states, net.archives
    (0, 0, 1, (1, 1), (0, 1))
"""

RING_OF_THREE = """
    >>> from houseslessties.books import counts_after
    >>> from houseslessties.webs import Web
    >>> ring = Web(3, [(0, 1), (1, 2), (2, 0)])
    >>> counts_after(ring, (("do", 0, 0), ("meet", 0), ("do", 2, 1), ("meet", 1), ("meet", 2)))
    (((2, 1), (1, 1), (2, 1)), ((1, 0), (1, 1), (2, 1)))
"""


class ExamplesTest(unittest.TestCase):
    def check(self, text):
        example = doctest.DocTestParser().get_doctest(text, {}, "example", None, 0)
        told = []
        result = doctest.DocTestRunner(verbose=False).run(example, out=told.append)
        self.assertEqual(result.failed, 0, "".join(told))
        self.assertGreater(result.attempted, 0)

    def test_machines_rows_and_webs(self):
        self.check(MACHINES_ROWS_AND_WEBS)

    def test_joins_and_orbits(self):
        self.check(JOINS_AND_ORBITS)

    def test_travellers(self):
        self.check(TRAVELLERS)

    def test_nets_and_books(self):
        self.check(NETS_AND_BOOKS)
        self.check(RING_OF_THREE)

    def test_readme(self):
        readme = pathlib.Path(__file__).resolve().parent.parent / "README.md"
        self.check(readme.read_text("utf-8"))
