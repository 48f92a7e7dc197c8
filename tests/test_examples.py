"""The examples of the document."""

import doctest
import pathlib
import unittest

MACHINES_AND_ROWS = """
    >>> from houseslessties.machines import Machine, led, orbit
    >>> from houseslessties.rows import commuting_paper, power_of
    >>> worn = Machine([(1, 2, 2, 3), (0, 0, 2, 3)])
    >>> led(worn, 0, (0, 1, 0)), orbit(worn, 0), power_of(worn, 0, (0,)), commuting_paper(worn, 0)
    (1, (0, 1, 2), (2, 1), (0, 0, 1))
"""


class ExamplesTest(unittest.TestCase):
    def check(self, text):
        example = doctest.DocTestParser().get_doctest(text, {}, "example", None, 0)
        told = []
        result = doctest.DocTestRunner(verbose=False).run(example, out=told.append)
        self.assertEqual(result.failed, 0, "".join(told))
        self.assertGreater(result.attempted, 0)

    def test_machines_and_rows(self):
        self.check(MACHINES_AND_ROWS)

    def test_readme(self):
        readme = pathlib.Path(__file__).resolve().parent.parent / "README.md"
        self.check(readme.read_text("utf-8"))
