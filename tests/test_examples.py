"""The examples of the document."""

import doctest
import pathlib
import unittest

MACHINES_ROWS_AND_WEBS = """
    >>> from houseslessties.machines import Machine, led, orbit
    >>> from houseslessties.rows import commuting_paper, power_of
    >>> from houseslessties.webs import Web, is_forest, parts_of, ring_paper, rings_of
    >>> worn = Machine([(1, 2, 2, 3), (0, 0, 2, 3)])
    >>> led(worn, 0, (0, 1, 0)), orbit(worn, 0), power_of(worn, 0, (0,)), commuting_paper(worn, 0)
    (1, (0, 1, 2), (2, 1), (0, 0, 1))
    >>> web = Web(5, [(0, 1), (1, 2), (2, 0), (3, 4)])
    >>> parts_of(web), rings_of(web, (0, 1, 2)), is_forest(web), ring_paper(web)
    (((0, 1, 2), (3, 4)), 1, False, (0, 1, 2))
"""

JOINS_AND_ORBITS = """
    >>> from houseslessties.joins import is_telling, join, joined_all, telling_holds, telling_paper, untold_rows
    >>> from houseslessties.machines import Machine
    >>> from houseslessties.orbits import group_paper, inverse_of, is_exchanging, orbit_table, turned_join
    >>> turn = Machine([(1, 2, 3, 0), (3, 2, 1, 0)])
    >>> is_telling(turn, 0), untold_rows(turn, 0, 1, 3), untold_rows(turn, 0, 1, 2)
    (False, ('rows', (1,), (0, 0, 0)), ('rows', (0, 0), (0, 1)))
    >>> ring = Machine([(1, 2, 3, 0), (2, 3, 0, 1)])
    >>> join(ring, 3, 1, 2), joined_all(ring, 1, (2, 3, 0)), inverse_of(ring, 0, 1), turned_join(ring, 0, 3, 1, 2)
    (0, 3, 3, 0)
    >>> orbit_table(ring, 0)[1], is_exchanging(ring, 0), group_paper(ring, 0)
    (((0, 1, 2, 3), (1, 2, 3, 0), (2, 3, 0, 1), (3, 0, 1, 2)), True, None)
    >>> steps = Machine([(1, 2, 2), (0, 0, 0)])
    >>> telling_holds(steps, 0, ("untold", 0, 0, (), (1,))), group_paper(Machine([(1, 2, 2)]), 0)
    (True, ('lost', 1))
"""

TRAVELLERS = """
    >>> from houseslessties.machines import Machine
    >>> from houseslessties.travellers import Traveller, all_marks, brought_behind, come_home, enough_home, home_states, marks_paper, needed_marks
    >>> swap = Machine([(1, 0, 2), (0, 2, 1)])
    >>> all_marks(swap, 0), all_marks(swap, 0, home=0), all_marks(swap, 0, out=2), needed_marks(swap, 0, 2, home=1)
    ((2, 2, 2), (1, 1, 1), (2, 2, 1), 2)
    >>> home_states(swap, 0, home=1), enough_home(swap, 0), marks_paper(swap, 0, home=1, out=1)
    ((0, 1), 1, ('rows', (0,), (), (1,)))
    >>> traveller = Traveller(swap, 0)
    >>> traveller.do(1), traveller.do(0), come_home(swap, 0, 2, (1, 1)), come_home(swap, 0, 2, (1, 0))
    ((0, 1), (1, 1), 0, 2)
    >>> brought_behind(swap, 0, (1, 1), (0, 1))
    (2, 1)
"""

NETS_AND_BOOKS = """
    >>> from houseslessties.machines import Machine
    >>> from houseslessties.webs import Web
    >>> from houseslessties.books import counts_after, first_twice, harmless_period, led_times, plain_state, run_harm, safe_ties
    >>> from houseslessties.books import heard_after, twice_run, wrong_run
    >>> from houseslessties.nets import Net, standing_after, truth_of
    >>> week = Machine([(1, 2, 3, 4, 5, 6, 0), (3, 4, 5, 6, 0, 1, 2)])
    >>> ring = Web(3, [(0, 1), (1, 2), (2, 0)])
    >>> steps = (("do", 0, 0), ("meet", 0), ("do", 2, 1), ("meet", 1), ("meet", 2))
    >>> counts_after(ring, steps)
    (((2, 1), (1, 1), (2, 1)), ((1, 0), (1, 1), (2, 1)))
    >>> standing_after(week, ring, 0, steps), truth_of(week, ring, 0, steps, 1), plain_state(week, ring, 0, steps, 2)
    (((5, 4, 5), (1, 4, 5)), 4, 4)
    >>> first_twice(ring, steps), safe_ties(ring, steps[:4]), heard_after(ring, steps[:2]), run_harm(ring, steps)
    ((4, 0), (0, 1), (((0,), (0,), ()), ((0,), (), ())), 1)
    >>> harmless_period(week, 0), led_times(week, 0, (0, 1), 10 ** 30), len(twice_run(ring)), wrong_run(Machine([(1, 1)]), ring, 0)
    (7, 4, 4, None)
    >>> net = Net(week, Web(2, [(0, 1), (0, 1)]), 6)
    >>> net.do(1, 0), net.meet(0), net.meet(1), net.states, net.archives
    (0, 0, 1, (1, 1), (0, 1))
"""

RING_OF_THREE = """
    >>> from houseslessties.books import counts_after
    >>> from houseslessties.webs import Web
    >>> ring = Web(3, [(0, 1), (1, 2), (2, 0)])
    >>> counts_after(ring, (("do", 0, 0), ("meet", 0), ("do", 2, 1), ("meet", 1), ("meet", 2)))
    (((2, 1), (1, 1), (2, 1)), ((1, 0), (1, 1), (2, 1)))
"""

AUDITS_AND_WALKS = """
    >>> from houseslessties.audits import audit_holds, audit_paper, audit_state
    >>> from houseslessties.machines import Machine
    >>> from houseslessties.nets import standing_after
    >>> from houseslessties.walks import careful_walk, crossed_counts, crossings, cut_run, unread_acts, walked_counts
    >>> from houseslessties.walks import walked_standing, walked_state
    >>> from houseslessties.webs import Web
    >>> week = Machine([(1, 2, 3, 4, 5, 6, 0), (3, 4, 5, 6, 0, 1, 2)])
    >>> ring = Web(3, [(0, 1), (1, 2), (2, 0)])
    >>> states, archives = standing_after(week, ring, 0, (("do", 0, 0), ("meet", 0), ("do", 2, 1), ("meet", 1), ("meet", 2)))
    >>> states, archives, audit_state(week, ring, 0, states, archives, 1), audit_paper(week, ring, 0, 0)
    ((5, 4, 5), (1, 4, 5), 4, None)
    >>> audit_holds(week, ring, 0, 0, None, (0, 1), ("runs", (("do", 2, 0), ("meet", 2)), (("do", 2, 0), ("do", 0, 0))))
    True
    >>> few, pair, meets = Machine([(1, 2, 2)]), Web(2, [(0, 1), (0, 1)]), (("meet", 0), ("meet", 1), ("meet", 0))
    >>> audit_holds(few, pair, 0, 0, None, None, ("runs", (("do", 0, 0),) + meets, (("do", 0, 0), ("do", 0, 0)) + meets))
    True
    >>> audit_paper(few, pair, 0, 0)[0], audit_paper(few, pair, 0, 0, (0,))[0], audit_paper(few, Web(2, [(0, 1)]), 0, 1)
    ('runs', 'runs', None)
    >>> line = Web(3, [(0, 1), (1, 2)])
    >>> walk = (("do", 0, 0), ("read", 0), ("do", 1, 1), ("meet", 0), ("do", 0, 1), ("read", 2), ("read", 1))
    >>> walked_counts(line, walk), unread_acts(line, walk), crossings(line, walk), crossed_counts(line, walk)
    ((1, 0, 0), (0, 1), (3,), (0, 1, 0))
    >>> careful = careful_walk(line, walk)
    >>> careful
    (('do', 0, 0), ('read', 0), ('do', 1, 1), ('read', 1), ('meet', 0), ('do', 0, 1), ('read', 2))
    >>> cut_run(line, careful), walked_standing(week, line, 0, careful), walked_state(week, line, 0, walk)
    ((('do', 0, 0), ('do', 1, 1)), ((1, 3, 0), (0, 0)), 1)
"""

COUNTERS_AND_RESTS = """
    >>> from houseslessties.counters import CounterNet
    >>> from houseslessties.rests import are_right, fewest_rounds, is_rest, longest_way, rest_after, rest_values, turns_heard
    >>> from houseslessties.webs import Web
    >>> web = Web(3, [(0, 1), (1, 2)])
    >>> net = CounterNet(web, 0, [5, 0, 2], [1, -3])
    >>> net.book(0), net.meet(1), net.meet(0), net.meet(1), net.states, net.archives, is_rest(net)
    (9, 5, 9, 9, (9, 9, 9), (9, 9), True)
    >>> rest_values(0, 0, 9), rest_values(0, 2, 6), rest_values(6, 3, 2), rest_values(5, 1, 0), rest_values(5, 1, 2)
    ((9, 0), (-6, 0), (2, 3), (0, 1), None)
    >>> are_right(6, 3, 2), are_right(3, 3, 2), rest_after(web, (0, 1)), turns_heard(web, (0, 1), 2, 0)
    (False, True, 3, 3)
    >>> longest_way(web), fewest_rounds(web)
    (2, 2)
"""

ACCIDENTS_AND_BREAKS = """
    >>> from houseslessties.accidents import house_back, lacking, meeting_broken, tie_lost, tie_opened
    >>> from houseslessties.breaks import Twin, doubled_deed, silent_break, silent_holds
    >>> from houseslessties.counters import CounterNet
    >>> from houseslessties.machines import Machine
    >>> from houseslessties.webs import Web
    >>> net = CounterNet(Web(3, [(0, 1), (1, 2), (2, 0)]), 0, (5, 7, 2), (4, 1, 0))
    >>> tie_lost(net, 2)[1], tie_lost(net, 0)[0].archives, tie_opened(net, (0, 2), 6)[1]
    (0, (1, 0), -6)
    >>> house_back(net, 1, 3, tie=0)[1], house_back(net, 1, 3)[1], house_back(net, 1, 3, tie=0)[0].archives
    (-3, -4, (3, 1, 0))
    >>> [meeting_broken(net, 0, 1, word)[1] for word in ("old", "new", "other")], lacking(net, 2, 12)
    ([1, -3, 0], 3)
    >>> turn = Machine([(1, 0)])
    >>> silent_break(turn, 0)[0], silent_holds(turn, 0, ("silent", 1, [0], (0,))), doubled_deed(turn, 0)
    ('silent', True, (0, 0))
    >>> twin = Twin(turn, 0)
    >>> twin.do(0, 0), twin.do(1, 0), twin.meet(whole=False), twin.ahead(), twin.meet(), twin.states, twin.marks
    (1, 1, 0, 0, 0, (0, 0), (1, 1))
"""

ELDERS = """
    >>> from houseslessties.elders import elder_paper, order_of, shown_rows, untold_run
    >>> from houseslessties.machines import Machine
    >>> from houseslessties.webs import Web
    >>> line = Web(3, [(0, 1), (1, 2)])
    >>> shown_rows(line, (("do", 2, 0), ("do", 0, 1), ("meet", 1), ("meet", 0)))
    ((1, 0), (1, 0), (0,))
    >>> elder_paper(line), elder_paper(Web(3, [(0, 1), (2, 1)]))
    (None, ('elders', 1, 0, 1))
    >>> wins = Machine([(1, 1, 2), (2, 1, 2)])
    >>> order_of(wins, 0, (0, 1), 2, most=100), untold_run(wins, line, 0, most=5000)
    ((1, 0), None)
    >>> len(untold_run(wins, Web(3, [(0, 1), (2, 1)]), 0, most=5000))
    5
"""

WAYS_AND_ROUNDS = """
    >>> from houseslessties.rounds import gone_ways, heard_rounds, pace_of, round_counts, way_counts
    >>> from houseslessties.webs import Web
    >>> three = Web(3, [(0, 1), (1, 2), (2, 0)])
    >>> way_counts(three, 0, (0, 1, 2)), gone_ways(three, 0, 2, (0, 1, 2), most=9)
    (((2, 1, 2), (1, 1, 2)), ((0, 1), (2,)))
    >>> round_counts(three, 0, (0, 1, 2), 4), pace_of(three, 0, (0, 1, 2)), round_counts(three, 0, (0, 1, 2), 10 ** 18, modulus=10)
    (((6, 6, 6), (5, 6, 6)), (1, 2, (3, 3, 3)), ((0, 0, 0), (9, 0, 0)))
    >>> heard_rounds(Web(4, [(1, 2), (0, 1)]), 0, (0, 1)), pace_of(Web(2, [(0, 1)]), 0, (0,))
    ((0, 1, 2, None), (1, 1, (0, 0)))
"""

STORE_CELLS_AND_DESK = """
    >>> from houseslessties.cells import CellNet, Loads, cell_book, kept_sums, lots_of, sum_paper, tearing_tie
    >>> from houseslessties.desk import Desk
    >>> from houseslessties.machines import Machine
    >>> from houseslessties.store import Store
    >>> from houseslessties.webs import Web
    >>> store = Store(Machine([(1, 2, 3, 4, 5, 0)]), Web(3, [(0, 1), (1, 2)]), 0)
    >>> store.do(0, 0), store.read(0), store.do(0, 0), store.do(2, 0), store.meet(0), store.copies
    (1, 1, 2, 1, 2, (1, 0, None))
    >>> store.meet(1), store.copies, store.backup, store.caught
    (3, (None, None, None), ((1, 0, 1), (0, 0)), (('do', 0, 0), ('do', 2, 0)))
    >>> store.put_back(), store.states, store.meet(1), store.meet(0)
    (None, (1, 0, 1), 1, 2)
    >>> loads = Loads(Web(3, [(0, 1), (1, 2)]), 3, [(0, 1), (1, 2)])
    >>> net = CellNet(loads)
    >>> net.do(0, (5, -5, 0)), net.meet(0), net.meet(1), net.states, cell_book(net, 2, 1)
    ((5, -5, 0), (5, -5), (-5, 0), ((5, -5, 0), (5, -5, 0), (0, -5, 0)), -5)
    >>> lots_of(loads), sum_paper(loads, [(5, -5, 0)], (1, 1, 1)), tearing_tie(loads, (5, -5, 0))
    (((0, 1), (0, 1, 2), (1,), (1, 2)), ('sum', (1,), 0), 1)
    >>> kept_sums(loads, [(5, -5, 0)]), kept_sums(loads, [(1, 0, 2)])
    (((0, 0, 1),), ((0, 1, 0),))
    >>> desk = Desk(Machine([(1, 0)]), Web(2, [(0, 1)]), 0)
    >>> [desk.say(line) for line in ("do 0 0", "read 1", "meet 0", "backup", "caught", "states", "back", "states", "do 2 0")]
    ['1', '0', '1', '1 0, 0', '1', '1 1', 'ok', '1 0', 'refused']
"""


class ExamplesTest(unittest.TestCase):
    def check(self, text):
        example = doctest.DocTestParser().get_doctest(text, {}, "example", None, 0)
        told = []
        result = doctest.DocTestRunner(verbose=False).run(example, out=told.append)
        self.assertEqual(result.failed, 0, "".join(told))
        self.assertGreater(result.attempted, 0)

    def test_machines_rows_and_webs(self):
        self.check(MACHINES_ROWS_AND_WEBS)

    def test_joins_and_orbits(self):
        self.check(JOINS_AND_ORBITS)

    def test_travellers(self):
        self.check(TRAVELLERS)

    def test_nets_and_books(self):
        self.check(NETS_AND_BOOKS)
        self.check(RING_OF_THREE)

    def test_audits_and_walks(self):
        self.check(AUDITS_AND_WALKS)

    def test_counters_and_rests(self):
        self.check(COUNTERS_AND_RESTS)

    def test_accidents_and_breaks(self):
        self.check(ACCIDENTS_AND_BREAKS)

    def test_elders(self):
        self.check(ELDERS)

    def test_ways_and_rounds(self):
        self.check(WAYS_AND_ROUNDS)

    def test_store_cells_and_desk(self):
        self.check(STORE_CELLS_AND_DESK)

    def test_readme(self):
        readme = pathlib.Path(__file__).resolve().parent.parent / "README.md"
        self.check(readme.read_text("utf-8"))
