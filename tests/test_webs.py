"""[1], [2], [3], [8], [9]: webs, houses, ties, parts and rings."""

import itertools
import unittest

from houseslessties.errors import BadWeb, NoHouse, NoTie, Refused
from houseslessties.webs import (
    Web, is_forest, need_house, need_tie, part_of, parts_of, ring_paper, rings_of,
)
from tests.cases import any_values, is_tupled, no_numbers, raised, repr_of, some_webs

FIVE = Web(5, [(0, 1), (1, 2), (2, 0), (3, 4)])
MOST_WEB = Web(12, [(house, (house + 1) % 12) for house in range(12)] + [(house, house + 4) for house in range(8)])


class WebTest(unittest.TestCase):
    def fault(self, houses, ties):
        return raised(self, BadWeb, Web, houses, ties)["at"]

    def test_attributes(self):
        web = Web(3, [[0, 1], (2, 1)])
        self.assertEqual((web.houses, web.ties), (3, ((0, 1), (2, 1))))
        self.assertTrue(is_tupled(web.ties))
        self.assertEqual(Web(houses=2, ties=()).ties, ())

    def test_how_many_houses(self):
        self.assertEqual(self.fault(0, []), -1)
        self.assertEqual(Web(1, []).houses, 1)
        self.assertEqual(Web(12, []).houses, 12)
        self.assertEqual(self.fault(13, []), -1)
        for value in no_numbers():
            self.assertEqual(self.fault(value, []), -1)
            self.assertEqual(self.fault(value, [(0, 0)]), -1)

    def test_how_many_ties(self):
        self.assertEqual(Web(2, [(0, 1)] * 20).ties, ((0, 1),) * 20)
        self.assertEqual(self.fault(2, [(0, 1)] * 21), -1)
        self.assertEqual(self.fault(2, [None] * 21), -1)
        self.assertEqual(Web(1, ()).ties, ())

    def test_pairs(self):
        self.assertEqual(Web(2, [(0, 1), (1, 0), (0, 1)]).ties, ((0, 1), (1, 0), (0, 1)))
        for pair in ((1, 1), (0,), (0, 1, 2), (), (0, 3), (-1, 0), (True, 0), (0, False), (0, "1"), "01", None, 0):
            self.assertEqual(self.fault(3, [pair]), 0, pair)
            self.assertEqual(self.fault(3, [(0, 1), (1, 2), pair, None]), 2, pair)
        self.assertEqual(self.fault(1, [(0, 1)]), 0)
        self.assertEqual(self.fault(3, [(0, 1)] * 19 + [(2, 2)]), 19)

    def test_any_value(self):
        for value in any_values() + [3, [0, 0]]:
            if not isinstance(value, (list, tuple)):
                self.assertEqual(self.fault(3, value), -1)
            elif value:
                self.assertEqual(self.fault(3, value), 0)
            self.assertEqual(self.fault(3, [(0, 1), value]), 1)
            self.assertEqual(self.fault(3, [(0, value)]), 0)
            self.assertEqual(self.fault(3, [(value, 2)]), 0)

    def test_later_changes_have_no_effect(self):
        ties = [[0, 1], [1, 2]]
        web = Web(3, ties)
        ties[0][0] = 2
        ties.append([0, 2])
        self.assertEqual(web.ties, ((0, 1), (1, 2)))
        self.assertEqual(ties, [[2, 1], [1, 2], [0, 2]])

    def test_equal(self):
        self.assertTrue(Web(2, [(0, 1)]) == Web(2, [[0, 1]]))
        self.assertFalse(Web(2, [(0, 1)]) != Web(2, [[0, 1]]))
        self.assertTrue(Web(2, [(0, 1)]) != Web(3, [(0, 1)]))
        self.assertFalse(Web(2, [(0, 1)]) == Web(2, [(1, 0)]))
        self.assertFalse(Web(2, [(0, 1)]) == Web(2, []))
        for value in any_values() + [(2, ((0, 1),)), ((0, 1),)]:
            self.assertFalse(Web(2, [(0, 1)]) == value)
            self.assertTrue(Web(2, [(0, 1)]) != value)


class HousesAndTiesTest(unittest.TestCase):
    def test_themselves(self):
        self.assertEqual([need_house(FIVE, house) for house in range(5)], [0, 1, 2, 3, 4])
        self.assertEqual([need_tie(FIVE, tie) for tie in range(4)], [0, 1, 2, 3])
        self.assertEqual((need_house(web=FIVE, house=4), need_tie(web=FIVE, tie=3)), (4, 3))

    def test_any_value(self):
        for value in no_numbers() + [5, 12]:
            self.assertIs(raised(self, NoHouse, need_house, FIVE, value)["house"], value)
            self.assertIs(raised(self, NoHouse, part_of, FIVE, value)["house"], value)
            self.assertIs(raised(self, NoTie, need_tie, FIVE, value)["tie"], value)
        self.assertEqual(raised(self, NoTie, need_tie, FIVE, 4), {"tie": 4})
        self.assertEqual(raised(self, NoTie, need_tie, Web(1, []), 0), {"tie": 0})


def lots(web):
    """The parts, by joining lots of houses over each tie."""
    found = {house: {house} for house in range(web.houses)}
    for one, other in web.ties:
        both = found[one] | found[other]
        for house in both:
            found[house] = both
    return sorted({tuple(sorted(lot)) for lot in found.values()})


def is_ring(web, ties):
    """Whether ties make one ring: each house of theirs in two of them, all of them joined."""
    houses = [house for tie in ties for house in web.ties[tie]]
    joined = [lot for lot in lots(Web(web.houses, [web.ties[tie] for tie in ties])) if len(lot) > 1]
    return len(joined) == 1 and all(houses.count(house) == 2 for house in houses)


def all_rings(web):
    """All rings, as ascending ties, those of the fewest ties ahead."""
    return [
        ties for many in range(2, len(web.ties) + 1) for ties in itertools.combinations(range(len(web.ties)), many)
        if is_ring(web, ties)
    ]


class PartsTest(unittest.TestCase):
    def test_parts(self):
        for web in some_webs(150) + [FIVE, MOST_WEB, Web(1, []), Web(12, [])]:
            parts = parts_of(web)
            self.assertEqual(repr_of(parts), repr_of(tuple(lots(web))))
            for part in parts:
                for house in part:
                    self.assertEqual(repr_of(part_of(web, house)), repr_of(part))
        self.assertEqual(parts_of(web=FIVE), ((0, 1, 2), (3, 4)))
        self.assertEqual(part_of(web=FIVE, house=4), (3, 4))
        self.assertEqual(parts_of(Web(4, [(3, 0)])), ((0, 3), (1,), (2,)))

    def test_rings_of_parts(self):
        for web in some_webs(150) + [MOST_WEB]:
            for part in parts_of(web):
                self.assertEqual(rings_of(web, part), self.spare_ties(web, part))
                self.assertEqual(rings_of(web, list(part)), self.spare_ties(web, part))
        self.assertEqual(rings_of(web=FIVE, part=(3, 4)), 0)
        self.assertEqual(rings_of(FIVE, [0, 1, 2]), 1)
        self.assertEqual(rings_of(MOST_WEB, tuple(range(12))), 9)
        self.assertEqual(rings_of(Web(2, [(0, 1)] * 20), (0, 1)), 19)
        self.assertEqual(rings_of(Web(3, [(0, 1)]), (2,)), 0)

    def spare_ties(self, web, part):
        """How many ties can go, one behind another, so that it stays a part."""
        ties = list(web.ties)
        spare = 0
        for pair in web.ties:
            rest = list(ties)
            rest.remove(pair)
            if pair[0] in part and part in lots(Web(web.houses, rest)):
                ties = rest
                spare += 1
        return spare

    def test_what_is_no_part(self):
        wrong = [(0, 1), (1, 2), (0, 1, 2, 3), (2, 1, 0), [0, 2, 1], (4, 3), (0, 1, 2, 3, 4), (3, 4, 4), (3,), (5,), (),
                 (False, True, 2), [0, True, 2], (3, "4"), "34", (0, 1, 2, 2), (3, 4, 0), ((0, 1, 2),)]
        for value in wrong + no_numbers():
            self.assertIs(raised(self, Refused, rings_of, FIVE, value)["at"], value)
        one = Web(1, [])
        self.assertEqual(rings_of(one, [0]), 0)
        for value in ((), [1], [False], [0, 0], 0, None):
            self.assertIs(raised(self, Refused, rings_of, one, value)["at"], value)

    def test_rings(self):
        for web in some_webs(150) + [FIVE]:
            rings = all_rings(web)
            told = ring_paper(web)
            self.assertIs(is_forest(web), not rings)
            if not rings:
                self.assertIsNone(told)
            else:
                self.assertIn(told, rings)
                self.assertEqual(len(told), len(rings[0]))
                self.assertIs(type(told), tuple)

    def test_two_ties_of_one_pair_are_the_shortest_ring(self):
        self.assertEqual(ring_paper(Web(4, [(0, 1), (1, 2), (2, 0), (2, 3), (3, 2)])), (3, 4))
        self.assertEqual(ring_paper(web=Web(2, [(0, 1), (1, 0)])), (0, 1))
        self.assertFalse(is_forest(Web(3, [(0, 1), (0, 1)])))

    def test_several_parts(self):
        self.assertEqual(ring_paper(Web(6, [(0, 1), (1, 2), (3, 4), (4, 5), (5, 3)])), (2, 3, 4))
        self.assertEqual(ring_paper(Web(7, [(0, 1), (1, 2), (2, 3), (3, 0), (4, 5), (5, 6), (6, 4)])), (4, 5, 6))
        forest = Web(6, [(0, 1), (1, 2), (3, 4), (4, 5)])
        self.assertIs(is_forest(web=forest), True)
        self.assertIsNone(ring_paper(forest))
        self.assertTrue(is_forest(Web(1, [])))

    def test_the_greatest_webs(self):
        self.assertEqual((MOST_WEB.houses, len(MOST_WEB.ties)), (12, 20))
        self.assertEqual(len(ring_paper(MOST_WEB)), 4)
        self.assertFalse(is_forest(MOST_WEB))
        whole = Web(12, [(house, (house + 1) % 12) for house in range(12)])
        self.assertEqual(ring_paper(whole), tuple(range(12)))
