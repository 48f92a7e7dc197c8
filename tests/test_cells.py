"""[1], [2], [3], [55], [56], [57], [58]: cells, their books, sums that are kept, ties that tear."""

import itertools
import math
import random
import unittest
from fractions import Fraction

from houseslessties.cells import (
    CellNet, Loads, cell_book, cell_web, kept_sums, lots_of, sum_paper, tearing_tie,
)
from houseslessties.counters import CounterNet
from houseslessties.errors import NoHouse, NoTie, Refused
from houseslessties.webs import Web
from tests.cases import (
    FIVE, LINE, MOST_WEB, THREE, TWICE, any_values, is_tupled, joined_to, no_numbers, raised, repr_of, some_webs,
)

MOST = 10 ** 18
MODULI = (0, 2, 7, 10 ** 6)
WEBS = some_webs(14, 51) + [THREE, TWICE, FIVE, LINE, Web(1, []), Web(2, [(1, 0)])]
SIX = Web(6, [(0, 1), (1, 2), (2, 3), (3, 4), (4, 5), (5, 0), (0, 3), (1, 4)])


def some_loads(seed, dense=0.65, cells=4):
    rolls = random.Random(seed)
    for web in WEBS:
        many = rolls.randrange(1, cells + 1)
        carried = [[cell for cell in range(many) if rolls.random() < dense] for _ in web.ties]
        yield Loads(web, many, carried), rolls


def by(modulus, number):
    return number % modulus if modulus else number


def some_changes(loads, rolls):
    """Changes, some of which alter no sum."""
    changes = []
    for _ in range(rolls.randrange(4)):
        change = [rolls.randrange(-3, 4) for _ in range(loads.cells)]
        if rolls.random() < 0.6:
            change[-1] = -sum(change[:-1])
        changes.append(rolls.choice([list, tuple])(change))
    return changes


def ways_to(loads, most):
    """(way, lot) for each way of at most so many ties, the shortest and then the least ones ahead."""
    found = {()}
    fresh = [((), house) for house in range(loads.web.houses)]
    for _ in range(most):
        fresh = [(way + (tie,), sum(pair) - here) for way, here in fresh for tie, pair in enumerate(loads.web.ties)
                 if here in pair and way[-1:] != (tie,)]
        found |= {way for way, _ in fresh}
    ways = sorted(found, key=lambda way: (len(way), way))
    return [(way, tuple(cell for cell in range(loads.cells) if all(cell in loads.carried[tie] for tie in way)))
            for way in ways]


def weighed(lot, change, weights, modulus=0):
    return by(modulus, sum(change[cell] * weights[cell] for cell in lot))


class LoadsTest(unittest.TestCase):
    def refused(self, web, cells, carried):
        return raised(self, Refused, Loads, web, cells, carried)["at"]

    def test_attributes(self):
        carried = [[0, 2], (1,)]
        loads = Loads(web=LINE, cells=3, carried=carried)
        carried[0].append(7)
        carried.append(1)
        self.assertIs(loads.web, LINE)
        self.assertEqual(repr_of((loads.cells, loads.carried)), repr_of((3, ((0, 2), (1,)))))
        self.assertEqual(Loads(Web(1, []), 8, []).carried, ())
        self.assertEqual(Loads(LINE, 8, [range(8) and tuple(range(8)), ()]).carried, (tuple(range(8)), ()))

    def test_equal(self):
        loads = Loads(LINE, 3, [[0, 2], (1,)])
        self.assertTrue(loads == Loads(Web(3, [[0, 1], [1, 2]]), 3, ((0, 2), [1])))
        self.assertIs(loads == Loads(LINE, 3, [[0, 2], (1,)]), True)
        for other in (Loads(LINE, 4, [[0, 2], [1]]), Loads(LINE, 3, [[0, 2], []]), Loads(TWICE, 3, [[0, 2], [1]]),
                      Loads(Web(4, [(0, 1), (1, 2)]), 3, [[0, 2], [1]]), LINE, None, ((0, 2), (1,)), CellNet(loads)):
            self.assertFalse(loads == other)
            self.assertTrue(loads != other)

    def test_cells_that_are_none(self):
        for value in no_numbers() + [0, 9]:
            self.assertIs(self.refused(LINE, value, "carried"), value)

    def test_what_is_carried_bent_at_each_item(self):
        for value in any_values() + [(), [()], ((), (), ()), "01", {0: (), 1: ()}]:
            if value not in ([(), []], ((2,), (1,))):
                self.assertIs(self.refused(LINE, 3, value), value)
        wrong = [(1, 0), (0, 0), [0, 1, 1], (3,), [0, 3], (-1, 0), (0, True), (False,), ["0"], (None,), ((0,),), "0", 0,
                 (0, 1, 2, 3), {0: 1}]
        for value in any_values() + wrong:
            for carried in ([value, ()], ((0,), value)):
                self.assertIs(self.refused(LINE, 3, carried), carried)


class CellNetTest(unittest.TestCase):
    def test_first(self):
        loads = Loads(THREE, 2, [(0,), (), (0, 1)])
        for net in (CellNet(loads), CellNet(loads=loads, modulus=0), CellNet(loads, 0)):
            self.assertIs(net.loads, loads)
            told = (net.modulus, net.states, net.archives)
            self.assertEqual(repr_of(told), repr_of((0, ((0, 0), (0, 0), (0, 0)), ((0,), (), (0, 0)))))

    def test_moduli(self):
        loads = Loads(LINE, 1, [(0,), (0,)])
        for modulus in MODULI:
            self.assertEqual(CellNet(loads, modulus).modulus, modulus)
        for value in no_numbers() + [1, 10 ** 6 + 1]:
            if type(value) is not int or value not in (13, 10 ** 6):
                self.assertIs(raised(self, Refused, CellNet, loads, value)["at"], value)

    def test_each_cell_against_a_net_of_this_cell_alone(self):
        for loads, rolls in some_loads(1, cells=8):
            for modulus in MODULI:
                self.check(loads, modulus, rolls)

    def check(self, loads, modulus, rolls):
        net, web = CellNet(loads, modulus), loads.web
        alone = [CounterNet(cell_web(loads, cell), modulus, (0,) * web.houses, (0,) * len(cell_web(loads, cell).ties))
                 for cell in range(loads.cells)]
        added = [[0] * loads.cells for _ in range(web.houses)]
        for _ in range(40):
            if web.ties and rolls.random() < 0.5:
                tie = rolls.randrange(len(web.ties))
                told = tuple(alone[cell].meet(self.place(loads, tie, cell)) for cell in loads.carried[tie])
                self.assertEqual(repr_of(net.meet(tie)), repr_of(told))
                self.assertEqual(repr_of(net.archives[tie]), repr_of(told))
            else:
                house = rolls.randrange(web.houses)
                amounts = [rolls.choice([0, 1, -5, MOST, -MOST, rolls.randrange(-99, 99)]) for _ in range(loads.cells)]
                told = tuple(alone[cell].do(house, amount) for cell, amount in enumerate(amounts))
                self.assertEqual(repr_of(net.do(house, rolls.choice([list, tuple])(amounts))), repr_of(told))
                added[house] = [one + more for one, more in zip(added[house], amounts)]
            self.assertEqual(net.states, tuple(zip(*[one.states for one in alone])))
            self.assertTrue(is_tupled((net.states, net.archives)))
            self.check_books(net, alone, added)

    def place(self, loads, tie, cell):
        """A tie's number among those that carry a cell."""
        return [one for one, lot in enumerate(loads.carried) if cell in lot].index(tie)

    def check_books(self, net, alone, added):
        for house in range(net.loads.web.houses):
            for cell in range(net.loads.cells):
                book = cell_book(net=net, house=house, cell=cell)
                self.assertEqual(repr_of(book), repr_of(alone[cell].book(house)))
                part = joined_to(alone[cell].web, house)
                self.assertEqual(book, by(net.modulus, sum(added[one][cell] for one in part)))

    def test_cell_webs(self):
        for loads, _ in some_loads(2):
            for cell in range(loads.cells):
                ties = [pair for pair, lot in zip(loads.web.ties, loads.carried) if cell in lot]
                self.assertEqual(cell_web(loads=loads, cell=cell), Web(loads.web.houses, ties))

    def test_two_hundred_deeds_and_meetings(self):
        loads = Loads(MOST_WEB, 8, [range(8) and list(range(8))] * 20)
        net = CellNet(loads)
        for at in range(200):
            net.do(at % 12, [MOST] * 8) if at % 2 else net.meet(at * 7 % 20)
        self.assertEqual(cell_book(net, 0, 7), 100 * MOST)

    def test_any_value(self):
        loads = Loads(LINE, 2, [(0,), (0, 1)])
        net = CellNet(loads, 7)
        net.do(house=0, amounts=[3, -3])
        net.meet(tie=0)
        before = repr_of(net)
        for value in no_numbers() + [3]:
            self.assertIs(raised(self, NoHouse, net.do, value, value)["house"], value)
            self.assertIs(raised(self, NoTie, net.meet, value)["tie"], value)
            self.assertIs(raised(self, NoHouse, cell_book, net, value, value)["house"], value)
            self.assertIs(raised(self, Refused, cell_book, net, 2, value)["at"], value)
            self.assertIs(raised(self, Refused, cell_web, loads, value)["at"], value)
        for value in self.no_amounts():
            self.assertIs(raised(self, Refused, net.do, 0, value)["at"], value)
            self.assertIs(raised(self, Refused, tearing_tie, loads, value)["at"], value)
        self.assertEqual(repr_of(net), before)

    def no_amounts(self):
        """Values that are no amounts of two cells, bent at each item."""
        wrong = [MOST + 1, -MOST - 1, 10 ** 5000, True, False, None, "1", (1,), [1]]
        told = [[value, 0] for value in wrong] + [(0, value) for value in wrong] + [(), [0], (0, 0, 0), "00", 0]
        return told + [value for value in any_values() if value not in ((0, -1), [0, True])] + [[0, True]]


class LotsTest(unittest.TestCase):
    def test_against_ways_of_few_ties(self):
        for loads, _ in some_loads(3):
            lots = lots_of(loads=loads)
            self.assertEqual(repr_of(lots), repr_of(tuple(sorted(set(lots)))))
            found = {lot for _, lot in ways_to(loads, 6)}
            self.assertTrue(found <= set(lots))
            # A way may be long: so each lot that few ties do not show is shown to be one of ways that go on from them.
            self.assertEqual(set(lots), self.closed(loads))

    def closed(self, loads):
        """The lots of all ways, by house and last tie and lot."""
        cells = tuple(range(loads.cells))
        known = {(house, None, cells) for house in range(loads.web.houses)}
        fresh = list(known)
        while fresh:
            here, last, lot = fresh.pop()
            for tie, pair in enumerate(loads.web.ties):
                if here in pair and tie != last:
                    behind = sum(pair) - here, tie, tuple(cell for cell in lot if cell in loads.carried[tie])
                    if behind not in known:
                        known.add(behind)
                        fresh.append(behind)
        return {lot for _, _, lot in known}

    def test_a_way_does_not_go_back_over_its_tie(self):
        loads = Loads(Web(4, [(0, 1), (1, 2), (1, 3)]), 3, [(0, 1), (1, 2), (0, 2)])
        self.assertEqual(lots_of(loads), ((0,), (0, 1), (0, 1, 2), (0, 2), (1,), (1, 2), (2,)))
        # All three ties together make no way, as none goes back over the tie by which it came.
        self.assertNotIn((), lots_of(loads))
        self.assertEqual(lots_of(Loads(Web(1, []), 2, [])), ((0, 1),))
        self.assertEqual(lots_of(Loads(LINE, 1, [(), ()])), ((), (0,)))

    def test_the_greatest(self):
        loads = Loads(SIX, 8, [[cell for cell in range(8) if cell != tie] for tie in range(8)])
        self.assertEqual(set(lots_of(loads)), self.closed(loads))
        self.assertGreater(len(lots_of(loads)), 100)


class SumPaperTest(unittest.TestCase):
    def test_papers(self):
        found = {"none": 0, "sum": 0, "refused": 0}
        for seed in range(4, 12):
            for loads, rolls in some_loads(seed, rolls_dense(seed)):
                weights = rolls.choice([(1,) * loads.cells, [rolls.randrange(-2, 3) for _ in range(loads.cells)]])
                changes = some_changes(loads, rolls)
                if weights == (1,) * loads.cells:
                    changes = [[*change[:-1], -sum(change[:-1])] for change in changes]
                for modulus in (0, 2, 3, 10 ** 6):
                    found[self.check(loads, changes, weights, modulus)] += 1
        self.assertGreater(min(found.values()), 50, found)

    def check(self, loads, changes, weights, modulus):
        cells = range(loads.cells)
        if any(weighed(cells, change, weights, modulus) for change in changes):
            told = raised(self, Refused, sum_paper, loads, changes, weights, modulus=modulus)
            self.assertIs(told["at"], weights)
            return "refused"
        paper = sum_paper(loads=loads, changes=changes, weights=weights, modulus=modulus)
        for way, lot in ways_to(loads, 5):
            wrong = [deed for deed, change in enumerate(changes) if weighed(lot, change, weights, modulus)]
            if wrong:
                self.assertEqual(repr_of(paper), repr_of(("sum", way, wrong[0])))
                break
        if paper is None:
            self.check_runs(loads, changes, weights, modulus)
            return "none"
        self.check_run(loads, changes, weights, modulus, paper)
        return "sum"

    def check_runs(self, loads, changes, weights, modulus):
        """The weighted sum stays 0 at every house, whatever is done and whatever meets."""
        rolls = random.Random(1)
        net = CellNet(loads, modulus)
        for _ in range(40):
            if loads.web.ties and rolls.random() < 0.6:
                net.meet(rolls.randrange(len(loads.web.ties)))
            elif changes:
                net.do(rolls.randrange(loads.web.houses), rolls.choice(changes))
            for state in net.states:
                self.assertEqual(weighed(range(loads.cells), state, weights, modulus), 0)

    def check_run(self, loads, changes, weights, modulus, paper):
        """The change at the way's begin, and meetings along the way, alter the weighted sum at a house."""
        _, way, deed = paper
        found = []
        for start in loads.web.ties[way[0]]:
            net, here = CellNet(loads, modulus), start
            net.do(start, changes[deed])
            for tie in way:
                if here in loads.web.ties[tie]:
                    net.meet(tie)
                    here = sum(loads.web.ties[tie]) - here
            found += [weighed(range(loads.cells), state, weights, modulus) for state in net.states]
        self.assertTrue(any(found))

    def test_the_shortest_way_then_the_least_then_the_least_change(self):
        web = Web(4, [(2, 3), (0, 1), (1, 2)])
        loads = Loads(web, 2, [(0, 1), (0, 1), (0, 1)])
        self.assertIsNone(sum_paper(loads, [(1, -1), (2, -2)], (1, 1)))
        loads = Loads(web, 2, [(0, 1), (0,), (1,)])
        self.assertEqual(sum_paper(loads, [(0, 0), (1, -1), (2, -2)], [1, 1]), ("sum", (1,), 1))
        # Each tie alone carries what makes 0 by itself; of two together only some is left.
        loads = Loads(web, 3, [(0, 1), (1, 2), (0, 1, 2)])
        self.assertEqual(sum_paper(loads, ((2, -2, 2),), (1, 1, 0)), ("sum", (1,), 0))
        loads = Loads(web, 4, [(0, 1), (2, 3), (0, 1, 2, 3)])
        self.assertIsNone(sum_paper(loads, [(1, -1, 5, -5)], (1, 1, 1, 1)))
        loads = Loads(web, 4, [(0, 1, 2, 3), (0, 1), (1, 2)])
        self.assertEqual(sum_paper(loads, [(1, -1, 1, -1)], (1, 1, 1, 1)), ("sum", (1, 2), 0))
        self.assertEqual(sum_paper(loads, [(2, -2, 2, -2), (1, 1, 1, 1)], (1, 1, 1, 1), modulus=4), ("sum", (1,), 1))
        self.assertEqual(sum_paper(loads, [(2, -2, 2, -2), (0, 0, 0, 4)], (1, 1, 1, 1), modulus=4), ("sum", (1, 2), 0))
        self.assertIsNone(sum_paper(loads, [(2, -2, 2, -2)], (1, 1, 1, 1), modulus=2))

    def test_counted_by_the_modulus(self):
        loads = Loads(LINE, 2, [(0,), (0, 1)])
        self.assertIsNone(sum_paper(loads, [(3, 6)], (1, 1), modulus=3))
        self.assertEqual(sum_paper(loads, [(3, 6)], (1, 1), modulus=9), ("sum", (0,), 0))
        self.assertEqual(raised(self, Refused, sum_paper, loads, [(3, 6)], (1, 1)), {"at": (1, 1)})
        self.assertEqual(raised(self, Refused, sum_paper, loads, [(3, 6)], (1, 1), modulus=2), {"at": (1, 1)})

    def test_which_refused_comes_first(self):
        loads = Loads(LINE, 2, [(0,), (0, 1)])
        for value in any_values() + [[(0, 0)] * 25, [(0, 0), (0, True)], [(0, 0, 0)], [[0]], (0, 0), [(MOST + 1, 0)]]:
            self.assertIs(raised(self, Refused, sum_paper, loads, value, value, modulus=value)["at"], value)
            self.assertIs(raised(self, Refused, kept_sums, loads, value)["at"], value)
        self.assertIsNone(sum_paper(loads, [(0, 0)] * 24, (1, 1)))
        for value in any_values() + [(), [0], (0, 0, 0), (0, MOST + 1)]:
            if value != (0, -1):
                self.assertIs(raised(self, Refused, sum_paper, loads, [(1, 0)], value, modulus=value)["at"], value)
        for value in no_numbers() + [1, 10 ** 6 + 1]:
            if type(value) is not int or value not in (13, 10 ** 6):
                self.assertIs(raised(self, Refused, sum_paper, loads, [(1, 0)], (1, 1), modulus=value)["at"], value)
        with self.assertRaises(TypeError):
            sum_paper(loads, [], (1, 1), 0)

    def test_the_greatest(self):
        loads = Loads(SIX, 8, [[cell for cell in range(8) if cell != tie] for tie in range(8)])
        changes = [[10 ** 6, -10 ** 6] * 4] * 7 + [[MOST] * 8]
        weights = (1, 1, 1, 1, -1, -1, -1, -1)
        self.assertEqual(sum_paper(loads, changes, weights), ("sum", (0,), 0))
        self.assertIsNone(sum_paper(loads, changes, (0,) * 8))
        self.assertIsNone(sum_paper(loads, [[0] * 8] * 24, (MOST,) * 8, modulus=10 ** 6))


def rolls_dense(seed):
    return (0.5, 0.75, 0.9, 1)[seed % 4]


class KeptSumsTest(unittest.TestCase):
    def test_against_all_small_weights(self):
        sizes = set()
        for seed in range(20, 26):
            for loads, rolls in some_loads(seed, rolls_dense(seed)):
                changes = some_changes(loads, rolls)
                sums = kept_sums(loads=loads, changes=changes)
                self.check_form(sums, loads.cells)
                sizes.add(len(sums))
                for weights in itertools.product(range(-2, 3), repeat=loads.cells):
                    self.assertEqual(self.is_kept(loads, changes, weights), self.is_made(sums, weights))
                for row in sums:
                    self.assertTrue(self.is_kept(loads, changes, row))
        self.assertEqual(sizes, {0, 1, 2, 3, 4})

    def check_form(self, sums, cells):
        self.assertTrue(is_tupled(sums))
        places = [next(place for place, number in enumerate(row) if number) for row in sums]
        self.assertEqual(places, sorted(set(places)))
        for row, leading in zip(sums, places):
            self.assertEqual((len(row), math.gcd(*row)), (cells, 1))
            self.assertGreater(row[leading], 0)
            self.assertEqual([other[leading] for other in sums if other is not row], [0] * (len(sums) - 1))
            self.assertEqual({type(number) for number in row}, {int})

    def is_kept(self, loads, changes, weights):
        return all(weighed(lot, change, weights) == 0 for lot in lots_of(loads) for change in changes)

    def is_made(self, sums, weights):
        """Whether weights are a sum of fractions of the rows: their leading places tell which."""
        left = [Fraction(weight) for weight in weights]
        for row in sums:
            leading = next(place for place, number in enumerate(row) if number)
            times = left[leading] / row[leading]
            left = [one - times * number for one, number in zip(left, row)]
        return not any(left)

    def test_the_same_for_other_orders_and_multiples(self):
        for loads, rolls in some_loads(30, 0.9):
            changes = some_changes(loads, rolls)
            told = kept_sums(loads, changes)
            self.assertEqual(kept_sums(loads, changes[::-1]), told)
            self.assertEqual(kept_sums(loads, [[number * -7 for number in change] for change in changes]), told)
            self.assertEqual(kept_sums(loads, changes + changes), told)
            if len(changes) > 1:
                both = [one + other for one, other in zip(changes[0], changes[1])]
                self.assertEqual(kept_sums(loads, changes + [both]), told)

    def test_told_forms(self):
        whole = Loads(LINE, 3, [(0, 1, 2), (0, 1, 2)])
        self.assertEqual(kept_sums(whole, []), ((1, 0, 0), (0, 1, 0), (0, 0, 1)))
        self.assertEqual(kept_sums(whole, [(0, 0, 0)]), ((1, 0, 0), (0, 1, 0), (0, 0, 1)))
        self.assertEqual(kept_sums(whole, [(1, 1, 1)]), ((1, 0, -1), (0, 1, -1)))
        self.assertEqual(kept_sums(whole, [(2, 3, 5)]), ((5, 0, -2), (0, 5, -3)))
        self.assertEqual(kept_sums(whole, [(2, 3, 5), (4, 6, 10)]), ((5, 0, -2), (0, 5, -3)))
        self.assertEqual(kept_sums(whole, [(0, 6, -4)]), ((1, 0, 0), (0, 2, 3)))
        self.assertEqual(kept_sums(whole, [(6, 0, -4), (0, 2, 2)]), ((2, -3, 3),))
        self.assertEqual(kept_sums(whole, [(1, 0, 0), (0, 1, 0), (1, 1, 1)]), ())
        self.assertEqual(kept_sums(Loads(Web(1, []), 1, []), [(5,)]), ())
        self.assertEqual(kept_sums(Loads(Web(1, []), 1, []), [[0]]), ((1,),))

    def test_numbers_of_any_size(self):
        loads = Loads(Web(1, []), 3, [])
        one, other = MOST - 1, MOST - 3
        self.assertEqual(kept_sums(loads, [(one, other, 0), (0, one, other)]), ((other ** 2, -one * other, one ** 2),))
        rolls = random.Random(2)
        loads = Loads(SIX, 8, [list(range(8))] * 8)
        for many in range(1, 8):
            changes = [[rolls.randrange(-10 ** 6, 10 ** 6 + 1) for _ in range(8)] for _ in range(many)]
            sums = kept_sums(loads, changes)
            self.check_form(sums, 8)
            self.assertEqual(len(sums), 8 - many)
            for row in sums:
                for change in changes:
                    self.assertEqual(weighed(range(8), change, row), 0)

    def test_the_greatest(self):
        loads = Loads(SIX, 8, [[cell for cell in range(8) if cell != tie] for tie in range(8)])
        changes = [[MOST, -MOST] + [0] * 6] * 24
        self.assertEqual(kept_sums(loads, changes), tuple(tuple(int(at == one) for at in range(8)) for one in range(2, 8)))


class TearingTest(unittest.TestCase):
    def test_the_first_tie(self):
        for loads, rolls in some_loads(40):
            for amounts in itertools.product((0, 3), repeat=loads.cells):
                moved = {cell for cell, amount in enumerate(amounts) if amount}
                torn = [tie for tie, lot in enumerate(loads.carried) if moved & set(lot) and not moved <= set(lot)]
                told = tearing_tie(loads=loads, amounts=list(amounts))
                self.assertEqual(repr_of(told), repr_of(torn[0] if torn else None))
                self.check_runs(loads, amounts, torn, rolls)

    def check_runs(self, loads, amounts, torn, rolls):
        if torn:
            one, other = loads.web.ties[torn[0]]
            net = CellNet(loads)
            net.do(one, amounts)
            net.meet(torn[0])
            moved = {cell for cell, amount in enumerate(amounts) if amount}
            self.assertTrue(0 < sum(number != 0 for number in net.states[other]) < len(moved))
            return
        net = CellNet(loads)
        for _ in range(20):
            if loads.web.ties and rolls.random() < 0.6:
                net.meet(rolls.randrange(len(loads.web.ties)))
            else:
                net.do(rolls.randrange(loads.web.houses), amounts)
            for state in net.states:
                times = {Fraction(number, amount) for number, amount in zip(state, amounts) if amount}
                self.assertLessEqual(len(times), 1)
                self.assertEqual([number for number, amount in zip(state, amounts) if not amount and number], [])

    def test_amounts_of_any_size(self):
        loads = Loads(LINE, 3, [(0, 1, 2), (0, 2)])
        self.assertEqual(tearing_tie(loads, (MOST, -MOST, 0)), 1)
        self.assertIsNone(tearing_tie(loads, (MOST, 0, -MOST)))
        self.assertIsNone(tearing_tie(loads, (0, 0, 0)))
        self.assertIsNone(tearing_tie(loads, (0, 5, 0)))
