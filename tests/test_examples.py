"""The examples of the document."""

import doctest
import pathlib
import unittest

MACHINES_ROWS_AND_WEBS = """
    >>> from houseslessties.machines import Machine, led, orbit
    >>> from houseslessties.rows import commuting_paper, power_of
    >>> from houseslessties.webs import Web, is_forest, parts_of, ring_paper, rings_of
    >>> worn = Machine([(1, 2, 2, 3), (0, 0, 2, 3)])
    >>> led(worn, 0, (0, 1, 0)), orbit(worn, 0), power_of(worn, 0, (0,)), commuting_paper(worn, 0)
    (1, (0, 1, 2), (2, 1), (0, 0, 1))
    >>> web = Web(5, [(0, 1), (1, 2), (2, 0), (3, 4)])
    >>> parts_of(web), rings_of(web, (0, 1, 2)), is_forest(web), ring_paper(web)
    (((0, 1, 2), (3, 4)), 1, False, (0, 1, 2))
"""

JOINS_AND_ORBITS = """
    >>> from houseslessties.joins import is_telling, join, joined_all, telling_holds, telling_paper, untold_rows
    >>> from houseslessties.machines import Machine
    >>> from houseslessties.orbits import group_paper, inverse_of, is_exchanging, orbit_table, turned_join
    >>> turn = Machine([(1, 2, 3, 0), (3, 2, 1, 0)])
    >>> is_telling(turn, 0), untold_rows(turn, 0, 1, 3), untold_rows(turn, 0, 1, 2)
    (False, ('rows', (1,), (0, 0, 0)), ('rows', (0, 0), (0, 1)))
    >>> ring = Machine([(1, 2, 3, 0), (2, 3, 0, 1)])
    >>> join(ring, 3, 1, 2), joined_all(ring, 1, (2, 3, 0)), inverse_of(ring, 0, 1), turned_join(ring, 0, 3, 1, 2)
    (0, 3, 3, 0)
    >>> orbit_table(ring, 0)[1], is_exchanging(ring, 0), group_paper(ring, 0)
    (((0, 1, 2, 3), (1, 2, 3, 0), (2, 3, 0, 1), (3, 0, 1, 2)), True, None)
    >>> steps = Machine([(1, 2, 2), (0, 0, 0)])
    >>> telling_holds(steps, 0, ("untold", 0, 0, (), (1,))), group_paper(Machine([(1, 2, 2)]), 0)
    (True, ('lost', 1))
"""


class ExamplesTest(unittest.TestCase):
    def check(self, text):
        example = doctest.DocTestParser().get_doctest(text, {}, "example", None, 0)
        told = []
        result = doctest.DocTestRunner(verbose=False).run(example, out=told.append)
        self.assertEqual(result.failed, 0, "".join(told))
        self.assertGreater(result.attempted, 0)

    def test_machines_rows_and_webs(self):
        self.check(MACHINES_ROWS_AND_WEBS)

    def test_joins_and_orbits(self):
        self.check(JOINS_AND_ORBITS)

    def test_readme(self):
        readme = pathlib.Path(__file__).resolve().parent.parent / "README.md"
        self.check(readme.read_text("utf-8"))
