"""[1], [2], [3], [23], [24], [25], [26], [27]: acts and counts, states by counts, right runs, wrong runs, harm."""

import math
import random
import unittest

from houseslessties.books import (
    act_deeds, counts_after, first_twice, harmless_period, heard_after, led_counts, led_times, plain_state, run_harm,
    safe_ties, twice_run, wrong_run,
)
from houseslessties.errors import BadRow, BadSteps, NoHouse, NoState, Refused, Uncommuting
from houseslessties.machines import Machine, check_row
from houseslessties.nets import check_steps, standing_after
from houseslessties.rows import commuting_paper
from houseslessties.webs import Web, is_forest, ring_paper
from tests.cases import (
    CLOCK, FEW, FIVE, FLAGS, LINE, MIXED, MOST_WEB, RING, SWAP, THREE, TURN, TWICE, WEEK, WORN, all_rows, all_steps,
    any_values, bent_steps, done, is_tupled, joined_to, machines_of, no_numbers, raised, reached, repr_of, some_machines,
    some_steps, some_webs,
)

STEPS = (("do", 0, 0), ("meet", 0), ("do", 2, 1), ("meet", 1), ("meet", 2))
WEBS = some_webs(12) + [THREE, TWICE, FIVE, LINE, Web(1, []), Web(2, [(0, 1)]), Web(4, [(0, 1), (1, 2), (2, 3), (3, 0)])]
OF_STEPS = (act_deeds, counts_after, heard_after, first_twice, safe_ties, run_harm)


def runs(seed, webs, many=24, deeds=3):
    """(web, steps) for each web, and runs of it that begin alike."""
    rolls = random.Random(seed)
    return [(web, some_steps(web, deeds, many, rolls, 0.65)[:length]) for web in webs for length in (many // 2, many)]


def acts_of(steps):
    """(house, deed) by act."""
    return [step[1:] for step in steps if step[0] == "do"]


def counts_by_act(web, steps):
    """By act what its house and each tie count, each act followed in a run of its own."""
    found = []
    for act in range(len(acts_of(steps))):
        houses, ties, at = [0] * web.houses, [0] * len(web.ties), 0
        for step in steps:
            if step[0] == "meet":
                one, other = web.ties[step[1]]
                both = houses[one] + houses[other] - ties[step[1]]
                houses[one] = houses[other] = ties[step[1]] = both
            else:
                houses[step[1]] += at == act
                at += 1
        found.append((houses, ties))
    return found


def heard_by_hand(web, steps):
    """(by house, by tie) the acts that were heard, ascending, as lots that grow."""
    houses, ties, act = [set() for _ in range(web.houses)], [set() for _ in web.ties], 0
    for step in steps:
        if step[0] == "do":
            houses[step[1]].add(act)
            act += 1
        else:
            one, other = web.ties[step[1]]
            houses[one] = houses[other] = ties[step[1]] = houses[one] | houses[other]
            houses[other], ties[step[1]] = set(houses[one]), set(houses[one])
    return tuple(tuple(sorted(lot)) for lot in houses), tuple(tuple(sorted(lot)) for lot in ties)


def doubles(web, steps, tie):
    """The acts that a meeting over a tie behind the steps would count twice."""
    one, other = web.ties[tie]
    found = counts_by_act(web, steps)
    return [act for act, (houses, ties) in enumerate(found) if min(houses[one], houses[other]) > ties[tie]]


def commuting_ones(machines):
    """(machine, first) for those from which deeds commute."""
    return [(machine, first) for machine in machines for first in range(machine.states)
            if commuting_paper(machine, first) is None]


COMMUTING = commuting_ones([WEEK, FLAGS, FEW, RING, WORN, MIXED, Machine([(0, 1)])] + some_machines(30))


class CountsTest(unittest.TestCase):
    def test_deeds_of_acts(self):
        for web, steps in runs(1, WEBS, deeds=8):
            self.assertEqual(repr_of(act_deeds(web, steps)), repr_of(tuple(deed for _, deed in acts_of(steps))))
        self.assertEqual(act_deeds(web=THREE, steps=[list(step) for step in STEPS]), (0, 1))
        self.assertEqual(act_deeds(Web(1, []), ()), ())

    def test_counts(self):
        for web, steps in runs(2, WEBS):
            found = counts_by_act(web, steps)
            houses = tuple(tuple(one[house] for one, _ in found) for house in range(web.houses))
            ties = tuple(tuple(other[tie] for _, other in found) for tie in range(len(web.ties)))
            self.assertEqual(repr_of(counts_after(web, steps)), repr_of((houses, ties)))
        self.assertEqual(counts_after(web=THREE, steps=STEPS), (((2, 1), (1, 1), (2, 1)), ((1, 0), (1, 1), (2, 1))))
        self.assertEqual(counts_after(TWICE, [["do", 0, 7]]), (((1,), (0,)), ((0,), (0,))))
        self.assertEqual(counts_after(THREE, ()), (((), (), ()), ((), (), ())))

    def test_the_books_at_every_moment(self):
        for web, steps in runs(3, WEBS):
            for many in range(len(steps) + 1):
                houses, ties = counts_after(web, steps[:many])
                for act, (where, _) in enumerate(acts_of(steps[:many])):
                    part = joined_to(web, where)
                    inside = sum(houses[house][act] for house in part)
                    inside -= sum(row[act] for pair, row in zip(web.ties, ties) if pair[0] in part)
                    self.assertEqual(inside, 1)
                    self.assertEqual(sum(row[act] for row in houses) - sum(row[act] for row in ties), 1)

    def test_counts_never_fall_and_ties_are_below_their_houses(self):
        for web, steps in runs(4, WEBS):
            ahead = counts_after(web, ())
            for many in range(1, len(steps) + 1):
                behind = counts_after(web, steps[:many])
                for lot in range(2):
                    for one, other in zip(ahead[lot], behind[lot]):
                        self.assertTrue(all(count <= later for count, later in zip(one, other)))
                for pair, row in zip(web.ties, behind[1]):
                    for house in pair:
                        self.assertTrue(all(count <= more for count, more in zip(row, behind[0][house])))
                ahead = behind

    def test_heard(self):
        for web, steps in runs(5, WEBS):
            self.assertEqual(repr_of(heard_after(web, steps)), repr_of(heard_by_hand(web, steps)))
        self.assertEqual(heard_after(web=THREE, steps=STEPS[:2]), (((0,), (0,), ()), ((0,), (), ())))
        self.assertEqual(heard_after(TWICE, ()), (((), ()), ((), ())))

    def test_counts_grow_as_they_please(self):
        steps = [("do", 0, 0)] + [("meet", tie) for tie in range(20)] * 19 + [("meet", tie) for tie in range(19)]
        houses, ties = counts_after(MOST_WEB, steps)
        self.assertEqual(sum(row[0] for row in houses) - sum(row[0] for row in ties), 1)
        self.assertGreater(houses[0][0], 10 ** 8)
        many = [("do", house % 12, house % 8) for house in range(200)] + [("meet", tie % 20) for tie in range(200)]
        self.assertEqual(len(counts_after(MOST_WEB, many)[0][11]), 200)

    def test_no_steps(self):
        for function in OF_STEPS:
            for value in any_values() + [[("meet", 0)] * 401]:
                nothing = value is None or not isinstance(value, (list, tuple)) or len(value) > 400
                self.assertEqual(raised(self, BadSteps, function, THREE, value), {"at": -1 if nothing else 0})
            for at in range(len(STEPS)):
                for bent in bent_steps(STEPS, at):
                    self.assertEqual(raised(self, BadSteps, function, THREE, bent), {"at": at})
            self.assertEqual(raised(self, BadSteps, function, THREE, [("do", 2, 7), ("do", 2, 8)]), {"at": 1})
            function(THREE, [("do", 2, 7)] * 400)


class StatesByCountsTest(unittest.TestCase):
    def test_times(self):
        for machine in some_machines(40) + [WEEK, FLAGS, FEW]:
            for state in range(machine.states):
                for row in all_rows(machine.deeds, 2):
                    ends = state
                    for times in range(40):
                        self.assertEqual(led_times(machine, state, row, times), ends)
                        ends = done(machine, ends, row)

    def test_very_great_times(self):
        self.assertEqual(led_times(WEEK, 0, (0, 1), 10 ** 30), 4 * 10 ** 30 % 7)
        self.assertEqual(led_times(machine=WEEK, state=3, row=[0], times=10 ** 4000), (3 + 10 ** 4000) % 7)
        self.assertEqual(led_times(FEW, 0, [0], 10 ** 4000), 2)
        self.assertEqual(led_times(CLOCK, 0, [7, 3] * 200, 10 ** 4000), 12 * 10 ** 4000 * 200 % 12)
        self.assertEqual(led_times(TURN, 2, (), 10 ** 9), 2)
        self.assertEqual(led_times(Machine([(1, 2, 3, 2)]), 0, (0,), 10 ** 9 + 1), 3)

    def test_times_of_any_value(self):
        for value in any_values() + [[], (), [0]]:
            self.assertIs(raised(self, NoState, led_times, WEEK, [value], value, value)["state"][0], value)
            if not (type(value) is int and value >= 0):
                self.assertIs(raised(self, Refused, led_times, WEEK, 0, (0,), value)["at"], value)
                told = raised(self, BadRow, check_row, WEEK, [0, value])
                self.assertEqual(raised(self, BadRow, led_times, WEEK, 0, [0, value], value), told)
        self.assertEqual(raised(self, BadRow, led_times, WEEK, 0, None, -1), {"at": -1})

    def test_counts(self):
        rolls = random.Random(7)
        for machine in some_machines(40) + [WEEK, FLAGS, FEW, TURN]:
            for row in all_rows(machine.deeds, 3):
                counts = [rolls.randrange(14) for _ in row]
                long = [deed for deed, count in zip(row, counts) for _ in range(count)]
                first = rolls.randrange(machine.states)
                self.assertEqual(led_counts(machine, first, row, counts), done(machine, first, long))

    def test_very_great_counts(self):
        told = led_counts(machine=WEEK, first=1, deeds=[0, 1, 0], counts=(10 ** 4000, 0, 10 ** 30))
        self.assertEqual(told, (1 + 10 ** 4000 + 10 ** 30) % 7)
        self.assertEqual(led_counts(WEEK, 5, (), []), 5)
        self.assertEqual(led_counts(CLOCK, 0, [0] * 400, [10 ** 30 + 1] * 400), (10 ** 30 + 1) * 400 % 12)

    def test_counts_of_any_value(self):
        wrong = any_values() + [(), [0], (1,), [1, 2, 3], (1, -1), (1, True), [False, 1], (1, None), "01", 0, 1, ("0", 1)]
        for value in wrong:
            self.assertIs(raised(self, Refused, led_counts, WEEK, 0, (0, 1), value)["at"], value)
            self.assertEqual(raised(self, BadRow, led_counts, WEEK, 0, (0, 2), value), {"at": 1})
            self.assertEqual(raised(self, NoState, led_counts, WEEK, 7, (0, 2), value), {"state": 7})
        for value in no_numbers() + [7]:
            self.assertIs(raised(self, NoState, led_counts, WEEK, value, value, value)["state"], value)

    def test_states_are_the_acts_deeds_by_their_counts(self):
        seen = 0
        for machine, first in COMMUTING:
            for web, steps in runs(8, WEBS[:6] + [THREE, TWICE], 16, machine.deeds):
                states, archives = standing_after(machine, web, first, steps)
                houses, ties = counts_after(web, steps)
                deeds = act_deeds(web, steps)
                self.assertEqual(states, tuple(led_counts(machine, first, deeds, row) for row in houses))
                self.assertEqual(archives, tuple(led_counts(machine, first, deeds, row) for row in ties))
                seen += 1
        self.assertGreater(seen, 300)

    def test_plain_states(self):
        rolls = random.Random(9)
        for machine in some_machines(20) + [WEEK, TURN, SWAP]:
            for web, steps in runs(9, WEBS, 16, machine.deeds):
                first = rolls.randrange(machine.states)
                deeds = [deed for _, deed in acts_of(steps)]
                for house, acts in enumerate(heard_by_hand(web, steps)[0]):
                    told = plain_state(machine, web, first, steps, house)
                    self.assertEqual(told, done(machine, first, [deeds[act] for act in acts]))
        self.assertEqual(plain_state(machine=WEEK, web=THREE, first=0, steps=STEPS, house=2), 4)

    def test_plain_states_of_any_value(self):
        for value in no_numbers() + [7]:
            self.assertIs(raised(self, NoState, plain_state, WEEK, THREE, value, value, value)["state"], value)
            self.assertIs(raised(self, NoHouse, plain_state, WEEK, THREE, 0, STEPS, value)["house"], value)
        self.assertEqual(raised(self, NoHouse, plain_state, WEEK, THREE, 0, STEPS, 3), {"house": 3})
        for at in range(len(STEPS)):
            for bent in bent_steps(STEPS, at) + [STEPS[:at] + (("do", 0, 2),)]:
                self.assertEqual(raised(self, BadSteps, plain_state, WEEK, THREE, 0, bent, None), {"at": at})


class RightRunsTest(unittest.TestCase):
    def test_the_first_meeting_that_counts_twice(self):
        kinds = {True: 0, False: 0}
        for web, steps in runs(10, WEBS):
            meetings = [(at, doubles(web, steps[:at], step[1])[:1]) for at, step in enumerate(steps) if step[0] == "meet"]
            found = [(at, acts[0]) for at, acts in meetings if acts]
            told = first_twice(web, steps)
            self.assertEqual(repr_of(told), repr_of(found[0] if found else None))
            kinds[told is None] += 1
        self.assertGreater(min(kinds.values()), 8)
        self.assertEqual(first_twice(web=THREE, steps=STEPS), (4, 0))
        self.assertIsNone(first_twice(THREE, ()))

    def test_the_least_act_of_several(self):
        steps = [("do", 1, 0), ("do", 0, 3), ("do", 0, 1), ("meet", 0), ("do", 1, 2), ("meet", 1)]
        self.assertEqual(first_twice(TWICE, steps), (5, 0))
        self.assertEqual(first_twice(TWICE, [("do", 1, 0), ("meet", 1), ("meet", 0), ("meet", 1)]), (2, 0))
        late = [("do", 0, 0), ("meet", 0), ("meet", 1), ("do", 1, 1), ("meet", 0)]
        self.assertEqual(first_twice(TWICE, late), (2, 0))
        self.assertEqual(first_twice(THREE, [("meet", 0), ("do", 0, 0), ("do", 2, 0), ("meet", 1), ("meet", 0),
                                             ("meet", 2)]), (5, 1))

    def test_safe_ties(self):
        for web, steps in runs(11, WEBS):
            told = tuple(tie for tie in range(len(web.ties)) if not doubles(web, steps, tie))
            self.assertEqual(repr_of(safe_ties(web, steps)), repr_of(told))
        self.assertEqual(safe_ties(web=THREE, steps=STEPS[:4]), (0, 1))
        self.assertEqual(safe_ties(THREE, STEPS), (1, 2))
        self.assertEqual(safe_ties(TWICE, ()), (0, 1))
        self.assertEqual(safe_ties(Web(1, []), [("do", 0, 0)]), ())

    def test_they_are_right_just_where_nothing_is_counted_twice(self):
        for web, steps in runs(12, WEBS):
            right = first_twice(web, steps) is None
            often = max([count for row in counts_after(web, steps)[0] for count in row], default=0)
            self.assertIs(right, often <= 1)

    def test_they_are_right_just_where_houses_show_what_they_should(self):
        adds = Machine([(1, 2, 3, 4, 5, 6, 7, 8, 9, 10, 11, 11)])
        for web, steps in runs(13, WEBS, 12, 1):
            shown = True
            for many in range(len(steps) + 1):
                for machine, first in ((adds, 0), (WEEK, 3), (FLAGS, 0)):
                    states = standing_after(machine, web, first, steps[:many])[0]
                    plain = tuple(plain_state(machine, web, first, steps[:many], house) for house in range(web.houses))
                    right = first_twice(web, steps[:many]) is None
                    if right or machine is FLAGS:
                        self.assertEqual(states, plain)
                    shown = shown and (machine is not adds or states == plain)
            self.assertIs(shown, first_twice(web, steps) is None)


class WrongRunsTest(unittest.TestCase):
    def test_twice_runs(self):
        for web in some_webs(60) + WEBS + [MOST_WEB]:
            told = twice_run(web)
            self.assertIs(told is None, is_forest(web))
            if told is not None:
                self.assertTrue(is_tupled(told))
                self.assertEqual(first_twice(web, told)[0], len(told) - 1)
                self.assertEqual(len(told), len(ring_paper(web)) + 1)
        self.assertEqual(len(twice_run(web=THREE)), 4)

    def test_no_fewer_steps_count_twice(self):
        for web in (TWICE, THREE, LINE, Web(3, [(0, 1), (1, 2), (1, 2)]), Web(4, [(0, 1), (1, 2), (2, 3), (3, 0)])):
            fewest = next((many for many in range(5) if any(
                first_twice(web, steps) for steps in all_steps(web, 1, many))), None)
            told = twice_run(web)
            if len(web.ties) == 4:
                self.assertEqual((fewest, len(told)), (None, 5))
            else:
                self.assertEqual(fewest, None if told is None else len(told))

    def test_wrong_runs(self):
        kinds = {True: 0, False: 0}
        for machine, first in COMMUTING:
            for web in WEBS:
                told = wrong_run(machine, web, first)
                idle = all(done(machine, first, (deed, deed)) == done(machine, first, (deed,))
                           for deed in range(machine.deeds))
                self.assertIs(told is None, is_forest(web) or idle)
                kinds[told is None] += 1
                if told is not None:
                    self.assertTrue(is_tupled(told))
                    self.assertEqual(check_steps(machine, web, told), told)
                    self.assertEqual(len(told), len(ring_paper(web)) + 1)
                    self.assertTrue(self.is_wrong(machine, web, first, told))
        self.assertGreater(min(kinds.values()), 30)
        self.assertIsNone(wrong_run(machine=Machine([(1, 1)]), web=THREE, first=0))

    def is_wrong(self, machine, web, first, steps):
        states = standing_after(machine, web, first, steps)[0]
        return any(states[house] != plain_state(machine, web, first, steps, house) for house in range(web.houses))

    def test_no_fewer_steps_are_wrong(self):
        for machine, first in ((WEEK, 0), (FEW, 0), (FLAGS, 0), (FLAGS, 3), (Machine([(0, 0), (1, 1)]), 1), (RING, 2)):
            if commuting_paper(machine, first) is not None:
                continue
            for web in (TWICE, LINE, THREE):
                most = 4 if machine.deeds == 1 else 3
                fewest = next((many for many in range(most + 1) if any(
                    self.is_wrong(machine, web, first, steps) for steps in all_steps(web, machine.deeds, many))), None)
                told = wrong_run(machine, web, first)
                if told is not None and len(told) > most:
                    self.assertIsNone(fewest)
                else:
                    self.assertEqual(fewest, None if told is None else len(told))

    def test_any_value(self):
        for value in no_numbers() + [7]:
            self.assertIs(raised(self, NoState, wrong_run, WEEK, THREE, value)["state"], value)
            self.assertIs(raised(self, NoState, harmless_period, WEEK, value)["state"], value)
        for state in range(4):
            told = dict(zip(("state", "one", "other"), commuting_paper(TURN, state)))
            self.assertEqual(raised(self, Uncommuting, wrong_run, TURN, LINE, state), told)
            self.assertEqual(raised(self, Uncommuting, harmless_period, TURN, state), told)


class HarmTest(unittest.TestCase):
    def harmless(self, machine, first, most):
        """The harmless counts from 1 on, by a look at rows to each state of the orbit."""
        rows = [row for row in all_rows(machine.deeds, len(reached(machine, first))) if len(row) < 7]
        return [count for count in range(1, most) if all(
            led_times(machine, first, row, count) == done(machine, first, row) for row in rows)]

    def test_periods(self):
        kinds = {}
        machines = [WEEK, FLAGS, FEW, RING, WORN, MIXED, Machine([(0, 1)])] + machines_of(3, 1) + some_machines(60)
        for machine, first in commuting_ones(machines):
            told = harmless_period(machine, first)
            counts = self.harmless(machine, first, 30)
            if told == 0:
                self.assertEqual(counts, [1])
            else:
                self.assertEqual(counts, list(range(1, 30, told)))
            kinds[told] = kinds.get(told, 0) + 1
        self.assertLessEqual({0, 1, 2, 3, 4, 7}, set(kinds))

    def test_periods_of_the_greatest_machines(self):
        self.assertEqual(harmless_period(CLOCK, 5), 12)
        self.assertEqual(harmless_period(machine=WEEK, first=0), 7)
        six = Machine([(1, 0, 3, 2, 5, 4, 6), (2, 3, 4, 5, 0, 1, 6)])
        self.assertEqual((harmless_period(six, 0), harmless_period(six, 6)), (6, 1))
        self.assertEqual(harmless_period(Machine([(1, 2, 3, 1)]), 0), 3)
        self.assertEqual(harmless_period(Machine([(1, 2, 3, 2)]), 0), 0)
        self.assertEqual(harmless_period(Machine([(1, 0), (0, 1)]), 1), 2)

    def test_deeds_off_the_way_from_the_first_state_do_not_tell(self):
        self.assertEqual((harmless_period(MIXED, 0), harmless_period(MIXED, 2), harmless_period(MIXED, 4)), (0, 2, 2))
        apart = Machine([(1, 0, 3, 4, 4), (0, 1, 4, 2, 3)])
        self.assertEqual(harmless_period(apart, 1), 2)

    def test_harm_of_runs(self):
        kinds = {}
        for web, steps in runs(14, WEBS, 30) + runs(17, [THREE, TWICE] * 5, 60, 8):
            told = run_harm(web, steps)
            deeds = [deed for _, deed in acts_of(steps)]
            sums = [sum(one[house] - 1 for act, (one, _) in enumerate(counts_by_act(web, steps))
                        if deeds[act] == deed and one[house]) for house in range(web.houses) for deed in range(8)]
            self.assertEqual(told, math.gcd(*sums))
            kinds[min(told, 2)] = True
            if first_twice(web, steps) is None:
                self.assertEqual(told, 0)
        self.assertEqual(set(kinds), {0, 1, 2})
        self.assertEqual(run_harm(web=THREE, steps=STEPS), 1)
        self.assertEqual(run_harm(THREE, ()), 0)
        self.assertEqual(run_harm(TWICE, [("do", 0, deed) for deed in range(8)] + [("meet", 0), ("meet", 1)]), 1)
        self.assertEqual(run_harm(TWICE, [("do", 0, 5)] * 4 + [("meet", 0), ("meet", 1)]), 4)
        self.assertEqual(run_harm(TWICE, [("do", 0, 5), ("do", 0, 6), ("do", 0, 5), ("meet", 0), ("meet", 1)]), 1)

    def test_periods_that_divide_the_harm_do_none(self):
        rounds = [Machine([[(state + 1) % many for state in range(many)]]) for many in range(1, 13)]
        seen = 0
        for web, steps in runs(15, WEBS, 30, 1):
            harm = run_harm(web, steps)
            for machine in rounds:
                states = standing_after(machine, web, 0, steps)[0]
                right = all(states[house] == plain_state(machine, web, 0, steps, house) for house in range(web.houses))
                self.assertIs(right, harm % harmless_period(machine, 0) == 0)
                seen += harm > 1 and right
        self.assertGreater(seen, 20)

    def test_machines_whose_period_divides_the_harm(self):
        for machine, first in COMMUTING:
            period = harmless_period(machine, first)
            for web, steps in runs(16, [THREE, TWICE], 14, machine.deeds):
                harm = run_harm(web, steps)
                if harm == 0 or period and harm % period == 0:
                    states = standing_after(machine, web, first, steps)[0]
                    for house in range(web.houses):
                        self.assertEqual(states[house], plain_state(machine, web, first, steps, house))
