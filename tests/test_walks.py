"""[1], [2], [3], [31], [32], [33]: audits on foot, careful walks, what they show."""

import random
import unittest

from houseslessties.audits import audit_state
from houseslessties.books import act_deeds, led_times
from houseslessties.errors import BadSteps, NoState, Refused, Uncommuting
from houseslessties.machines import Machine
from houseslessties.nets import Net, standing_after
from houseslessties.rows import commuting_paper
from houseslessties.walks import (
    careful_walk, check_walk, crossed_counts, crossings, cut_run, unread_acts, walked_counts, walked_standing,
    walked_state,
)
from houseslessties.webs import Web
from tests.cases import (
    CLOCK, FEW, FIVE, FLAGS, LINE, MIXED, MOST_WEB, RING, THREE, TURN, TWICE, WEEK, any_values, bent_steps, done,
    is_tupled, joined_to, no_numbers, raised, repr_of, some_machines, some_steps, some_webs,
)

WALK = (("do", 0, 0), ("read", 0), ("do", 1, 1), ("meet", 0), ("do", 0, 1), ("read", 2), ("read", 1))
WEBS = some_webs(14, 7) + [THREE, TWICE, FIVE, LINE, Web(1, []), Web(2, [(0, 1)])]
OF_WALKS = (
    check_walk, crossings, unread_acts, walked_counts, crossed_counts, careful_walk, cut_run,
)
MACHINES = [WEEK, FLAGS, FEW, RING, MIXED, CLOCK] + some_machines(25)
COMMUTING = [
    (machine, first) for machine in MACHINES for first in range(machine.states) if commuting_paper(machine, first) is None
]


def some_walk(web, deeds, many, rolls, whole):
    """Steps with reads among them, of all houses or of some."""
    walk = list(some_steps(web, deeds, many, rolls, 0.55))
    houses = rolls.sample(range(web.houses), web.houses if whole else rolls.randrange(web.houses + 1))
    for house in houses:
        walk.insert(rolls.randrange(len(walk) + 1), ("read", house))
    return tuple(walk)


def walks(seed, many=14, deeds=3, whole=None):
    """(web, walk) for each web, some of all houses and some not."""
    rolls = random.Random(seed)
    return [(web, some_walk(web, deeds, many, rolls, kind)) for web in WEBS * 3
            for kind in ((True, False) if whole is None else (whole,))]


def tie_read_at(web, walk, tie):
    """The index of the read by which a tie is read; None if it is not read."""
    reads = [at for at, pace in enumerate(walk) if pace[0] == "read" and pace[1] in web.ties[tie]]
    return reads[1] if len(reads) == 2 else None


def acts_of(walk):
    """(index, house) by act."""
    return [(at, pace[1]) for at, pace in enumerate(walk) if pace[0] == "do"]


def counts_at(web, walk, act, at):
    """(by house, by tie) the counts of one act ahead of a pace, the act followed in a run of its own."""
    begin, where = acts_of(walk)[act]
    houses, ties = [0] * web.houses, [0] * len(web.ties)
    for index, pace in enumerate(walk[:at]):
        if index == begin:
            houses[where] += 1
        elif pace[0] == "meet":
            one, other = web.ties[pace[1]]
            houses[one] = houses[other] = ties[pace[1]] = houses[one] + houses[other] - ties[pace[1]]
    return houses, ties


def read_before(walk, at):
    return {pace[1] for pace in walk[:at] if pace[0] == "read"}


def crossings_by_hand(web, walk):
    return [at for at, pace in enumerate(walk)
            if pace[0] == "meet" and len(read_before(walk, at) & set(web.ties[pace[1]])) == 1]


def careful_by_hand(web, walk):
    """The walk with the first crossing mended again and again."""
    while crossings_by_hand(web, walk):
        at = crossings_by_hand(web, walk)[0]
        house, = set(web.ties[walk[at][1]]) - read_before(walk, at)
        later = tuple(pace for pace in walk[at:] if pace != ("read", house))
        walk = walk[:at] + (("read", house),) + later
    return walk


class WalkTest(unittest.TestCase):
    def fault(self, value, web=LINE):
        return raised(self, BadSteps, check_walk, web, value)["at"]

    def test_as_tuples(self):
        for web, walk in walks(1, deeds=8) + [(LINE, WALK), (LINE, ())]:
            for value in (walk, list(walk), [list(pace) for pace in walk]):
                self.assertEqual(repr_of(check_walk(web, value)), repr_of(walk))
        self.assertEqual(check_walk(web=LINE, value=[["read", 2]]), (("read", 2),))

    def test_how_many(self):
        reads = [["read", house] for house in range(3)]
        self.assertEqual(len(check_walk(LINE, reads + [["meet", 1]] * 397)), 400)
        self.assertEqual(self.fault(reads + [["meet", 1]] * 398), -1)
        self.assertEqual(self.fault([None] * 401), -1)
        self.assertEqual(self.fault([None] * 400), 0)

    def test_a_house_read_twice(self):
        self.assertEqual(self.fault(WALK + (("read", 0),)), 7)
        self.assertEqual(self.fault(WALK + (("read", 2), ("read", 2), None)), 7)
        self.assertEqual(self.fault([("read", 1), ("do", 0, 0), ["read", 1], None]), 2)
        self.assertEqual(self.fault((None, ("read", 1), ("read", 1))), 0)

    def test_bent_at_each_item(self):
        reads = [("read",), ("read", 3), ("read", -1), ("read", True), ("read", False), ("read", "0"), ("read", None),
                 ("read", (0,)), ("read", 0, 0), ("Read", 0), ("rea", 0), "read", (None, 0), ("read", 10 ** 900)]
        for at in range(len(WALK)):
            for bent in bent_steps(WALK, at) + [WALK[:at] + (value,) + WALK[at + 1:] for value in reads]:
                self.assertEqual(self.fault(bent), at, bent[at])
                self.assertEqual(self.fault(list(bent) + [None]), at, bent[at])

    def test_where_walks_are_passed(self):
        wrong = [value for value in any_values()] + [WALK + (("read", 0),), WALK[:3] + (("do", 0, 8),), [("meet", 0)] * 401]
        for value in wrong:
            told = raised(self, BadSteps, check_walk, LINE, value)
            for function in OF_WALKS:
                self.assertEqual(raised(self, BadSteps, function, LINE, value), told)
            for function in (walked_standing, walked_state):
                self.assertEqual(raised(self, BadSteps, function, WEEK, LINE, 0, value), told)

    def test_deeds_are_the_machines_if_one_is_passed(self):
        walk = WALK[:4] + (("do", 0, 2),) + WALK[5:]
        self.assertEqual(len(check_walk(LINE, walk)), 7)
        for function in (walked_standing, walked_state):
            self.assertEqual(raised(self, BadSteps, function, WEEK, LINE, 0, walk), {"at": 4})


class CountsTest(unittest.TestCase):
    def test_crossings(self):
        seen = 0
        for web, walk in walks(2):
            told = crossings(web, walk)
            self.assertEqual(repr_of(told), repr_of(tuple(crossings_by_hand(web, walk))))
            seen += len(told)
        self.assertGreater(seen, 50)
        self.assertEqual(crossings(web=LINE, walk=[list(pace) for pace in WALK]), (3,))

    def test_unread_acts(self):
        for web, walk in walks(3):
            told = tuple(act for act, (at, where) in enumerate(acts_of(walk)) if where not in read_before(walk, at))
            self.assertEqual(repr_of(unread_acts(web, walk)), repr_of(told))
        self.assertEqual(unread_acts(web=LINE, walk=WALK), (0, 1))

    def test_walked_counts(self):
        for web, walk in walks(4):
            sums = []
            for act in range(len(acts_of(walk))):
                total = sum(counts_at(web, walk, act, at)[0][pace[1]] for at, pace in enumerate(walk) if pace[0] == "read")
                reads = [(tie, tie_read_at(web, walk, tie)) for tie in range(len(web.ties))]
                total -= sum(counts_at(web, walk, act, at)[1][tie] for tie, at in reads if at is not None)
                sums.append(total)
            self.assertEqual(repr_of(walked_counts(web, walk)), repr_of(tuple(sums)))
        self.assertEqual(walked_counts(web=LINE, walk=WALK), (1, 0, 0))
        self.assertEqual(walked_counts(LINE, WALK[:5]), (1, 0, 0))
        self.assertEqual(walked_counts(LINE, ()), ())

    def test_crossed_counts(self):
        for web, walk in walks(5):
            sums = []
            for act in range(len(acts_of(walk))):
                total = 0
                for at in crossings_by_hand(web, walk):
                    houses, ties = counts_at(web, walk, act, at)
                    unread, = set(web.ties[walk[at][1]]) - read_before(walk, at)
                    total += houses[unread] - ties[walk[at][1]]
                sums.append(total)
            self.assertEqual(repr_of(crossed_counts(web, walk)), repr_of(tuple(sums)))
        self.assertEqual(crossed_counts(web=LINE, walk=WALK), (0, 1, 0))

    def test_what_crossings_took(self):
        below = 0
        for web, walk in walks(6, 20, whole=True):
            walked, crossed = walked_counts(web, walk), crossed_counts(web, walk)
            for act in range(len(walked)):
                self.assertGreaterEqual(crossed[act], 0)
                self.assertEqual(walked[act], (act in unread_acts(web, walk)) - crossed[act])
                below += walked[act] < 0
            if not crossings(web, walk):
                told = tuple(int(act in unread_acts(web, walk)) for act in range(len(walked)))
                self.assertEqual(walked, told)
        self.assertGreater(below, 5)

    def test_one_act_more_ahead_of_a_crossing_is_lost(self):
        for web, walk in walks(7, whole=True):
            for at in crossings(web, walk):
                unread, = set(web.ties[walk[at][1]]) - read_before(walk, at)
                longer = walk[:at] + (("do", unread, 0),) + walk[at:]
                act = len(acts_of(walk[:at]))
                self.assertLessEqual(walked_counts(web, longer)[act], 0)

    def test_the_greatest(self):
        rolls = random.Random(3)
        for walk in (some_walk(MOST_WEB, 8, 388, rolls, True), some_walk(MOST_WEB, 8, 388, rolls, False)):
            for function in OF_WALKS[:6]:
                self.assertTrue(is_tupled(function(MOST_WEB, walk)))
        walk = [("do", 0, 0), ("read", 0)] + [("meet", at % 20) for at in range(380)] + [("read", at) for at in range(1, 12)]
        walked, crossed = walked_counts(MOST_WEB, walk), crossed_counts(MOST_WEB, walk)
        self.assertEqual(walked[0], 1 - crossed[0])


class CarefulTest(unittest.TestCase):
    def test_careful_walks(self):
        longer = 0
        for web, walk in walks(8, 18):
            told = careful_walk(web, walk)
            self.assertEqual(repr_of(told), repr_of(careful_by_hand(web, walk)))
            self.assertEqual(crossings_by_hand(web, told), [])
            self.assertEqual([pace for pace in told if pace[0] != "read"], [pace for pace in walk if pace[0] != "read"])
            if not crossings(web, walk):
                self.assertEqual(told, walk)
            longer += len(told) > len(walk)
        self.assertGreater(longer, 5)
        careful = (("do", 0, 0), ("read", 0), ("do", 1, 1), ("read", 1), ("meet", 0), ("do", 0, 1), ("read", 2))
        self.assertEqual(careful_walk(web=LINE, walk=[list(pace) for pace in WALK]), careful)

    def test_one_read_may_lead_to_another(self):
        walk = (("read", 0), ("meet", 0), ("meet", 1), ("do", 2, 0))
        told = (("read", 0), ("read", 1), ("meet", 0), ("read", 2), ("meet", 1), ("do", 2, 0))
        self.assertEqual(careful_walk(LINE, walk), told)
        self.assertEqual(careful_walk(LINE, walk + (("read", 1),)), told)

    def test_longer_than_a_walk_that_may_be_passed(self):
        walk = (("read", 0),) + (("meet", 0),) * 399
        told = careful_walk(LINE, walk)
        self.assertEqual((len(told), told[:3]), (401, (("read", 0), ("read", 1), ("meet", 0))))
        self.assertEqual(raised(self, BadSteps, crossings, LINE, told), {"at": -1})

    def test_cut_runs(self):
        kinds = {True: 0, False: 0}
        for web, walk in walks(9):
            whole = len(read_before(walk, len(walk))) == web.houses
            kinds[whole and not crossings(web, walk)] += 1
            if not whole or crossings(web, walk):
                self.assertIs(raised(self, Refused, cut_run, web, walk)["at"], walk)
            careful = careful_walk(web, walk)
            if whole:
                self.assertEqual(repr_of(cut_run(web, careful)), repr_of(self.cut_by_hand(web, careful)))
        self.assertGreater(min(kinds.values()), 20)
        self.assertEqual(cut_run(web=LINE, walk=careful_walk(LINE, WALK)), (("do", 0, 0), ("do", 1, 1)))

    def cut_by_hand(self, web, walk):
        steps = []
        for at, pace in enumerate(walk):
            houses = web.ties[pace[1]] if pace[0] == "meet" else (pace[1],)
            if pace[0] != "read" and not read_before(walk, at) & set(houses):
                steps.append(pace)
        return tuple(steps)

    def test_refused_walks(self):
        # The very value that was passed is told, a list as a list.
        for walk in ([], [["read", 0]], [["read", 0], ["read", 1]], [["read", 0], ["meet", 0], ["read", 1], ["read", 2]]):
            self.assertIs(raised(self, Refused, cut_run, LINE, walk)["at"], walk)
            self.assertIs(raised(self, Refused, walked_standing, WEEK, LINE, 0, walk)["at"], walk)
        for walk in ([], [["read", 0]], [["read", 0], ["read", 1]]):
            self.assertIs(raised(self, Refused, walked_state, WEEK, LINE, 0, walk)["at"], walk)
        self.assertEqual(cut_run(Web(1, []), [["do", 0, 0], ["read", 0], ["do", 0, 1]]), (("do", 0, 0),))


class StandingTest(unittest.TestCase):
    def seen_on_foot(self, machine, web, first, walk):
        """(states, archives) as read, by a net that goes along."""
        net = Net(machine, web, first)
        states, archives = {}, {}
        for at, pace in enumerate(walk):
            if pace[0] == "read":
                states[pace[1]] = net.states[pace[1]]
                for tie in range(len(web.ties)):
                    if tie_read_at(web, walk, tie) == at:
                        archives[tie] = net.archives[tie]
            elif pace[0] == "do":
                net.do(pace[1], pace[2])
            else:
                net.meet(pace[1])
        return tuple(states[house] for house in range(web.houses)), tuple(archives[tie] for tie in range(len(web.ties)))

    def test_they_are_those_of_the_cut_run(self):
        rolls = random.Random(11)
        for machine, first in COMMUTING:
            for web in WEBS:
                walk = careful_walk(web, some_walk(web, machine.deeds, 14, rolls, True))
                told = walked_standing(machine, web, first, walk)
                self.assertEqual(repr_of(told), repr_of(self.seen_on_foot(machine, web, first, walk)))
                self.assertEqual(told, standing_after(machine, web, first, cut_run(web, walk)))

    def test_audited_as_if_seen_at_one_moment(self):
        rolls = random.Random(12)
        for web in WEBS:
            for _ in range(5):
                walk = careful_walk(web, some_walk(web, 2, 20, rolls, True))
                standing = walked_standing(WEEK, web, 3, walk)
                for house in range(web.houses):
                    part = joined_to(web, house)
                    acts = [act for act in unread_acts(web, walk) if acts_of(walk)[act][1] in part]
                    deeds = [pace[2] for pace in walk if pace[0] == "do"]
                    truth = done(WEEK, 3, [deeds[act] for act in acts])
                    self.assertEqual(audit_state(WEEK, web, 3, *standing, house), truth)

    def test_names_and_errors(self):
        walk = [list(pace) for pace in careful_walk(LINE, WALK)]
        self.assertEqual(walked_standing(machine=WEEK, web=LINE, first=0, walk=walk), ((1, 3, 0), (0, 0)))
        self.assertIs(raised(self, Refused, walked_standing, WEEK, LINE, 0, WALK)["at"], WALK)
        for value in no_numbers() + [7]:
            self.assertIs(raised(self, NoState, walked_standing, WEEK, LINE, value, value)["state"], value)
            self.assertIs(raised(self, NoState, walked_state, WEEK, LINE, value, value)["state"], value)
        paper = dict(zip(("state", "one", "other"), commuting_paper(TURN, 1)))
        for function in (walked_standing, walked_state):
            self.assertEqual(raised(self, Uncommuting, function, TURN, LINE, 1, None), paper)


class StateTest(unittest.TestCase):
    def turns_back(self, machine, first):
        """Whether each deed, done again and again, leads back to the first state."""
        return all(first in [done(machine, first, (deed,) * many) for many in range(1, 13)] for deed in range(machine.deeds))

    def test_states_on_foot(self):
        rolls = random.Random(13)
        kinds = {"told": 0, "refused": 0, "crossed": 0, "below": 0}
        for machine, first in COMMUTING:
            for web in WEBS:
                walk = some_walk(web, machine.deeds, 16, rolls, True)
                if not self.turns_back(machine, first):
                    kinds["refused"] += 1
                    self.assertEqual(raised(self, Refused, walked_state, machine, web, first, walk), {"at": first})
                    continue
                # 27720 is a multiple of 1 to 12: so many times more lead nowhere else.
                state = first
                for deed, count in zip([pace[2] for pace in walk if pace[0] == "do"], walked_counts(web, walk)):
                    state = led_times(machine, state, (deed,), count + 27720 * 10 ** 6)
                self.assertEqual(walked_state(machine, web, first, walk), state)
                kinds["told"] += 1
                kinds["crossed"] += bool(crossings(web, walk))
                kinds["below"] += min(walked_counts(web, walk), default=0) < 0
        self.assertGreater(min(kinds.values()), 10)

    def test_without_crossings_it_is_the_unread_acts(self):
        rolls = random.Random(14)
        for web in WEBS:
            walk = careful_walk(web, some_walk(web, 2, 20, rolls, True))
            deeds = [pace[2] for pace in walk if pace[0] == "do"]
            truth = done(WEEK, 6, [deeds[act] for act in unread_acts(web, walk)])
            self.assertEqual(walked_state(WEEK, web, 6, walk), truth)

    def test_sums_below_0_undo(self):
        walk = [["read", 0], ["do", 1, 0], ["meet", 0], ["meet", 1], ["meet", 0], ["read", 1]]
        self.assertEqual(walked_counts(TWICE, walk), (-2,))
        self.assertEqual(walked_state(machine=WEEK, web=TWICE, first=1, walk=walk), 6)
        self.assertEqual(walked_state(WEEK, LINE, 0, WALK), 1)

    def test_refused(self):
        self.assertEqual(raised(self, Refused, walked_state, FEW, LINE, 0, WALK), {"at": 0})
        self.assertEqual(raised(self, Refused, walked_state, FEW, LINE, 1, None), {"at": 1})
        self.assertEqual(walked_state(FEW, LINE, 2, [("read", house) for house in range(3)]), 2)
        # A deed that does not come back is enough, though no act is one of it.
        both = Machine([(1, 0, 3, 2), (2, 3, 2, 3)])
        self.assertIsNone(commuting_paper(both, 0))
        self.assertEqual(raised(self, Refused, walked_state, both, LINE, 0, ()), {"at": 0})
        self.assertEqual(walked_state(both, LINE, 3, [("do", 1, 0)] + [("read", at) for at in range(3)]), 2)

    def test_all_houses_must_be_read_but_crossings_may_be(self):
        walk = WALK[:-1]
        self.assertIs(raised(self, Refused, walked_state, WEEK, LINE, 0, walk)["at"], walk)
        self.assertEqual(crossings(LINE, WALK), (3,))
        self.assertEqual(walked_state(WEEK, LINE, 5, WALK), 6)

    def test_the_greatest(self):
        rolls = random.Random(4)
        walk = some_walk(MOST_WEB, 8, 388, rolls, True)
        deeds, counts = act_deeds(MOST_WEB, [pace for pace in walk if pace[0] != "read"]), walked_counts(MOST_WEB, walk)
        told = (3 + sum((deed + 1) * count for deed, count in zip(deeds, counts))) % 12
        self.assertEqual(walked_state(CLOCK, MOST_WEB, 3, walk), told)
