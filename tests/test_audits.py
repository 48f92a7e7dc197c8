"""[1], [2], [3], [28], [29], [30]: who must look where, papers of audits, the truth out of a standing."""

import itertools
import random
import unittest

from houseslessties.audits import audit_holds, audit_paper, audit_state
from houseslessties.errors import NoHouse, NoState, Refused, Uncommuting
from houseslessties.machines import Machine
from houseslessties.nets import check_steps, standing_after, truth_of
from houseslessties.rows import commuting_paper
from houseslessties.webs import Web
from tests.cases import (
    CLOCK, FEW, FIVE, FLAGS, LINE, MIXED, MOST_WEB, RING, THREE, TURN, TWICE, WEEK, WORN, all_steps, any_values,
    bent_steps, done, is_tupled, joined_to, no_numbers, raised, some_machines, some_steps, some_webs,
)

STILL = Machine([(0, 2, 1), (0, 1, 2)])
# From 0 on two deeds take turns; on 2, 3 and 4, to which no row leads from there, they do not commute.
APART = Machine([(1, 0, 3, 4, 2), (1, 0, 3, 2, 4)])
# Counts on to 11, and stays there.
ADDS = Machine([[min(state + 1, 11) for state in range(12)]])
# Counts on to 9, and goes round over the last three then.
TAIL = Machine([(1, 2, 3, 4, 5, 6, 7, 8, 9, 10, 11, 9)])
MACHINES = [WEEK, FLAGS, FEW, RING, MIXED, STILL, ADDS, TAIL, CLOCK]
COMMUTING = [
    (machine, first) for machine in MACHINES + [APART, WORN] + some_machines(25) for first in range(machine.states)
    if commuting_paper(machine, first) is None
]
FEW_ONES = [(WEEK, 0), (FLAGS, 0), (FLAGS, 3), (FEW, 0), (FEW, 1), (STILL, 0), (MIXED, 0), (MIXED, 4), (TAIL, 0), (APART, 0)]
WEBS = some_webs(10, 4) + [THREE, TWICE, FIVE, LINE, Web(1, []), Web(2, [(0, 1)])]
CIRCLE = Web(12, [(house, (house + 1) % 12) for house in range(12)])
TAILED = Web(12, [(house, house + 1) for house in range(10, -1, -1)] + [(0, 1)])


def lots(things):
    """All lots of some things, ascending."""
    return [lot for many in range(len(things) + 1) for lot in itertools.combinations(things, many)]


def part_and_ties(web, house):
    part = tuple(sorted(joined_to(web, house)))
    return part, tuple(tie for tie, pair in enumerate(web.ties) if pair[0] in part)


def is_told(machine, first, part, ties, houses_seen, ties_seen):
    """The rule of [28], by its words."""
    deeds = range(machine.deeds)
    if all(machine.tables[deed][first] == first for deed in deeds):
        return True
    if houses_seen != part:
        return False
    if all(done(machine, first, (deed, deed)) == machine.tables[deed][first] for deed in deeds):
        return True
    again = all(any(done(machine, first, (deed,) * many) == machine.tables[deed][first] for many in range(2, 14))
                for deed in deeds)
    return ties_seen == ties and (len(ties) == len(part) - 1 or again)


def goes_through(machine, web, first, house, houses_seen, ties_seen, value):
    """Whether a value of this form shows that the truth is not told."""
    word, one, other = value
    shown = []
    for run in (one, other):
        states, archives = standing_after(machine, web, first, run)
        shown.append(([states[at] for at in houses_seen], [archives[at] for at in ties_seen]))
    truths = [truth_of(machine, web, first, run, house) for run in (one, other)]
    return word == "runs" and shown[0] == shown[1] and truths[0] != truths[1]


class PaperTest(unittest.TestCase):
    def check(self, machine, web, first, house, houses, ties):
        """Whether a paper is told just where it has to be, and goes through."""
        part, whole = part_and_ties(web, house)
        seen = part if houses is None else tuple(houses)
        known = whole if ties is None else tuple(ties)
        told = audit_paper(machine, web, first, house, houses, ties)
        self.assertIs(told is None, is_told(machine, first, part, whole, seen, known), (machine.tables, web.ties))
        if told is not None:
            self.assertTrue(is_tupled(told))
            for run in told[1:]:
                self.assertEqual(check_steps(machine, web, run), run)
            self.assertTrue(goes_through(machine, web, first, house, seen, known, told))
            self.assertIs(audit_holds(machine, web, first, house, houses, ties, told), True)
            listed = [told[0]] + [[list(step) for step in run] for run in told[1:]]
            self.assertIs(audit_holds(machine, web, first, house, houses, ties, listed), True)
        return told is None

    def test_all_houses_and_ties(self):
        kinds = {True: 0, False: 0}
        for machine, first in COMMUTING:
            for web in WEBS:
                for house in range(web.houses):
                    kinds[self.check(machine, web, first, house, None, None)] += 1
        self.assertGreater(min(kinds.values()), 100)

    def test_some_houses_and_ties(self):
        kinds = {True: 0, False: 0}
        for machine, first in FEW_ONES:
            for web in (LINE, TWICE, THREE, Web(4, [(1, 3), (3, 1)]), Web(1, [])):
                for house in range(web.houses):
                    part, whole = part_and_ties(web, house)
                    for houses in [None] + lots(part):
                        for ties in [None] + lots(whole):
                            lists = [list(lot) if lot else lot for lot in (houses, ties)]
                            kinds[self.check(machine, web, first, house, *lists)] += 1
        self.assertGreater(min(kinds.values()), 100)

    def test_all_of_the_greatest_webs(self):
        rings = Web(12, [(house, house + 1) for house in range(11)] + [(11, 0)] + [(10, 11)] * 8)
        for web in (MOST_WEB, CIRCLE, TAILED, rings, Web(12, [(house, house - 1) for house in range(11, 0, -1)])):
            for machine in (ADDS, TAIL, CLOCK, STILL):
                for house in (0, 7, 11):
                    for houses, ties in ((None, None), (None, [0]), ([3, 4], None), ((), ())):
                        self.check(machine, web, 0, house, houses, ties)

    def test_by_default_all_is_looked_at(self):
        self.assertIsNone(audit_paper(machine=WEEK, web=THREE, first=0, house=0))
        self.assertIsNone(audit_paper(FEW, Web(2, [(0, 1)]), 0, 1))
        self.assertIsNotNone(audit_paper(FEW, TWICE, 0, 0))
        self.assertIsNotNone(audit_paper(FEW, TWICE, 0, 0, (0,)))
        self.assertIsNotNone(audit_paper(machine=WEEK, web=LINE, first=0, house=0, houses=None, ties=[1]))

    def test_other_parts_have_no_say(self):
        two = Web(5, [(0, 1), (2, 3), (3, 2)])
        self.assertIsNone(audit_paper(FEW, two, 0, 1))
        self.assertIsNotNone(audit_paper(FEW, two, 0, 3))
        self.assertIsNone(audit_paper(FEW, two, 0, 4, (4,), ()))
        self.assertIsNone(audit_paper(FEW, two, 0, 4))

    def test_what_is_told_is_told_of_all_short_runs(self):
        for machine, first in ((WEEK, 0), (FEW, 0), (FLAGS, 0), (STILL, 0), (Machine([(1, 1)]), 0)):
            for web, most in ((LINE, 4), (TWICE, 4), (Web(2, [(0, 1)]), 5)):
                part, whole = part_and_ties(web, 0)
                truths = {}
                runs = [run for many in range(most) for run in all_steps(web, machine.deeds, many)]
                for run in runs:
                    truths[run] = (standing_after(machine, web, first, run), truth_of(machine, web, first, run, 0))
                for houses, ties in itertools.product((part, part[:1]), (whole, whole[1:], ())):
                    if audit_paper(machine, web, first, 0, houses, ties) is None:
                        self.check_truths(truths, houses, ties)

    def check_truths(self, truths, houses, ties):
        told = {}
        for (states, archives), truth in truths.values():
            seen = tuple(states[at] for at in houses), tuple(archives[at] for at in ties)
            self.assertEqual(told.setdefault(seen, truth), truth)


class HoldsTest(unittest.TestCase):
    PAPER = ("runs", (("do", 2, 0), ("meet", 2)), (("do", 2, 0), ("do", 0, 0)))

    def holds(self, value, machine=WEEK, web=THREE, house=0, houses=None, ties=(0, 1)):
        told = audit_holds(machine, web, 0, house, houses, ties, value)
        self.assertIs(type(told), bool)
        return told

    def test_papers_that_hold(self):
        self.assertTrue(self.holds(self.PAPER))
        self.assertFalse(self.holds(self.PAPER, ties=None))
        self.assertFalse(self.holds(self.PAPER, ties=(0, 2)))
        self.assertTrue(self.holds(["runs", [["do", 2, 0], ["meet", 2]], [["do", 2, 0], ["do", 0, 0]]]))
        self.assertTrue(self.holds(("runs", (), (("do", 1, 0),)), houses=[0, 2], ties=None))
        self.assertFalse(self.holds(("runs", (), (("do", 1, 0),)), houses=[0, 1], ties=None))
        meets = (("meet", 0), ("meet", 1), ("meet", 0))
        value = ("runs", (("do", 0, 0),) + meets, (("do", 0, 0), ("do", 0, 0)) + meets)
        self.assertTrue(audit_holds(machine=FEW, web=TWICE, first=0, house=0, houses=None, ties=None, value=value))

    def test_truths_must_be_unlike(self):
        self.assertFalse(self.holds(("runs", (), ())))
        self.assertFalse(self.holds(("runs", (("meet", 0),), ())))
        seven = tuple(("do", 0, 0) for _ in range(7))
        self.assertFalse(self.holds(("runs", (), seven)))
        self.assertFalse(self.holds(("runs", (), (("do", 4, 0),)), web=FIVE, house=1))
        self.assertTrue(self.holds(("runs", (), (("do", 4, 0),)), web=FIVE, house=3, houses=(3,), ties=()))

    def test_by_all_short_papers(self):
        runs = [run for many in range(3) for run in all_steps(TWICE, 1, many)]
        for machine in (WEEK, FEW, Machine([(1, 1)]), Machine([(1, 0)])):
            for houses, ties in itertools.product((None, (0,), (1,), ()), (None, (0,), (1,), ())):
                seen, known = (0, 1) if houses is None else houses, (0, 1) if ties is None else ties
                for one, other in itertools.product(runs, repeat=2):
                    told = audit_holds(machine, TWICE, 0, 1, houses, ties, ("runs", one, other))
                    self.assertIs(told, goes_through(machine, TWICE, 0, 1, seen, known, ("runs", one, other)))

    def test_bent_at_each_item(self):
        for value in any_values() + ["Runs", "run", ("runs",)]:
            self.assertFalse(self.holds((value,) + self.PAPER[1:]))
        for run in (1, 2):
            for value in any_values() + [bent for at in (0, 1) for bent in bent_steps(self.PAPER[run], at)]:
                self.assertFalse(self.holds(self.PAPER[:run] + (value,) + self.PAPER[run + 1:]))
        for bent in (self.PAPER[:2], self.PAPER + ((),), self.PAPER[1:], (self.PAPER,), (), [[], [], []]):
            self.assertFalse(self.holds(bent))

    def test_runs_of_400_steps(self):
        one = (("do", 2, 0), ("meet", 2)) + (("do", 1, 0),) * 398
        other = (("do", 2, 0), ("do", 0, 0)) + (("do", 1, 0),) * 398
        self.assertTrue(self.holds(("runs", one, other)))
        self.assertFalse(self.holds(("runs", one + (("do", 1, 0),), other + (("do", 1, 0),))))

    def test_any_value(self):
        for value in no_numbers() + [0]:
            self.assertFalse(self.holds(value))
            self.assertFalse(self.holds(("runs", value, value)))

    def test_the_greatest(self):
        rolls = random.Random(1)
        one, other = (some_steps(MOST_WEB, 8, 400, rolls, 0.8) for _ in range(2))
        told = audit_holds(CLOCK, MOST_WEB, 0, 0, (), (), ("runs", one, other))
        truths = [truth_of(CLOCK, MOST_WEB, 0, run, 0) for run in (one, other)]
        self.assertIs(told, truths[0] != truths[1])


class RefusedTest(unittest.TestCase):
    def calls(self, *args):
        """Each function with these arguments: (function, arguments)."""
        return ((audit_paper, args), (audit_holds, args + (None,)))

    def test_lots_that_are_none(self):
        web = Web(6, [(0, 1), (1, 2), (3, 4), (4, 5), (5, 3)])
        wrong = [(4, 3), (3, 3), [3, 4, 5, 5], (0,), (3, 4, 6), (True,), [3, True], (3, None), (-1,), ("3",), "34", 3,
                 ((3,),), [[3]], (2, 3), 10 ** 900]
        for value in wrong + [value for value in any_values() if value is not None]:
            for function, args in self.calls(WEEK, web, 0, 3, value, value):
                self.assertIs(raised(self, Refused, function, *args)["at"], value)
            if value != (2, 3):
                for function, args in self.calls(WEEK, web, 0, 3, None, value):
                    self.assertIs(raised(self, Refused, function, *args)["at"], value)
        for value in ((4, 3), (3, 3), (0,), [1], (2, 3, 4, 5), (2, 5), (True, 2), 3, (2, False)):
            for function, args in self.calls(WEEK, web, 0, 3, (3,), value):
                self.assertIs(raised(self, Refused, function, *args)["at"], value)
        for houses, ties in (((), ()), ([3], [2, 4]), ((3, 4, 5), (2, 3, 4)), ([4, 5], None), (None, [])):
            for function, args in self.calls(WEEK, web, 0, 3, houses, ties):
                function(*args)

    def test_a_bool_is_no_house_and_no_tie(self):
        for value in ((False,), [True], (False, True), (0, True)):
            for houses, ties in ((value, None), (None, value), (value, value)):
                for function, args in self.calls(WEEK, THREE, 0, 0, houses, ties):
                    self.assertIs(raised(self, Refused, function, *args)["at"], value)

    def test_which_error_comes_first(self):
        for value in no_numbers() + [7]:
            for function, args in self.calls(WEEK, THREE, value, value, "houses", "ties"):
                self.assertIs(raised(self, NoState, function, *args)["state"], value)
            for function, args in self.calls(WEEK, THREE, 0, value, "houses", "ties"):
                self.assertIs(raised(self, NoHouse, function, *args)["house"], value)
            self.assertIs(raised(self, NoState, audit_state, WEEK, THREE, value, None, None, value)["state"], value)
            self.assertIs(raised(self, NoHouse, audit_state, WEEK, THREE, 0, None, None, value)["house"], value)
        for function, args in self.calls(TURN, THREE, 0, 9, "houses", "ties"):
            paper = dict(zip(("state", "one", "other"), commuting_paper(TURN, 0)))
            self.assertEqual(raised(self, Uncommuting, function, *args), paper)
        for function, args in self.calls(WEEK, THREE, 0, 0, "houses", "ties"):
            self.assertEqual(raised(self, Refused, function, *args), {"at": "houses"})
        for function, args in self.calls(WEEK, THREE, 0, 0, (0,), "ties"):
            self.assertEqual(raised(self, Refused, function, *args), {"at": "ties"})
        self.assertEqual(raised(self, Uncommuting, audit_state, TURN, THREE, 0, None, None, 9), paper)


class StateTest(unittest.TestCase):
    def test_the_truth_behind_any_steps(self):
        rolls = random.Random(6)
        kinds = {True: 0, False: 0}
        for machine, first in COMMUTING:
            for web in WEBS:
                for many in (3, 12, 30):
                    steps = some_steps(web, machine.deeds, many, rolls)
                    standing = standing_after(machine, web, first, steps)
                    for house in range(web.houses):
                        part, ties = part_and_ties(web, house)
                        told = is_told(machine, first, part, ties, part, ties)
                        kinds[told] += 1
                        if told:
                            truth = truth_of(machine, web, first, steps, house)
                            self.assertEqual(audit_state(machine, web, first, *standing, house), truth)
                        else:
                            wrong = raised(self, Refused, audit_state, machine, web, first, *standing, house)
                            self.assertEqual(wrong, {"at": house})
        self.assertGreater(min(kinds.values()), 300)

    def test_lists_and_names(self):
        states, archives = [5, 4, 5], [1, 4, 5]
        told = audit_state(machine=WEEK, web=THREE, first=0, states=states, archives=archives, house=1)
        self.assertEqual((told, states, archives), (4, [5, 4, 5], [1, 4, 5]))

    def test_refused_whatever_the_states_are(self):
        for states, archives in (((0, 0), (0, 0)), ((9, 9), (9, 9)), (None, None), ("", [])):
            self.assertEqual(raised(self, Refused, audit_state, FEW, TWICE, 0, states, archives, 1), {"at": 1})

    def test_states_off_the_orbit_on_which_deeds_do_not_commute(self):
        self.assertIsNotNone(commuting_paper(APART, 2))
        rolls = random.Random(8)
        for web in (THREE, TWICE, LINE, FIVE):
            for first in (0, 1):
                for _ in range(10):
                    steps = some_steps(web, 2, 15, rolls)
                    standing = standing_after(APART, web, first, steps)
                    truth = truth_of(APART, web, first, steps, 0)
                    self.assertEqual(audit_state(APART, web, first, *standing, 0), truth)

    def test_the_greatest(self):
        rolls = random.Random(9)
        tree = Web(12, [(house // 2, house) for house in range(11, 0, -1)])
        for machine, web in ((CLOCK, MOST_WEB), (CLOCK, tree), (ADDS, tree), (TAIL, tree), (CLOCK, CIRCLE)):
            steps = some_steps(web, machine.deeds, 400, rolls, 0.7)
            standing = standing_after(machine, web, 5, steps)
            for house in (0, 11):
                truth = truth_of(machine, web, 5, steps, house)
                self.assertEqual(audit_state(machine, web, 5, *standing, house), truth)
