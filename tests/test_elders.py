"""[1], [2], [3], [46], [47], [48]: elders, orders, runs that go wrong, joins that are not told."""

import itertools
import random
import unittest

from houseslessties.books import heard_after
from houseslessties.elders import elder_holds, elder_paper, elder_run, order_of, shown_rows, untold_run
from houseslessties.errors import BadRow, BadSteps, NoState, Refused, TooGreat, Untold
from houseslessties.joins import is_telling
from houseslessties.machines import Machine
from houseslessties.nets import Net
from houseslessties.webs import Web, is_forest, ring_paper
from tests.cases import (
    CLOCK, FEW, FIVE, FLAGS, LINE, MIXED, MOST_WEB, RING, SWAP, THREE, TURN, TWICE, WEEK, all_steps,
    any_values, bent_steps, done, is_tupled, machines_of, nested, no_numbers, raised, repr_of, some_machines, some_steps,
    some_webs,
)

WINS = Machine([(1, 1, 2), (2, 1, 2)])
LAST = Machine([(1, 1, 1), (2, 2, 2)])
YOUNG = Web(3, [(0, 1), (2, 1)])
WEBS = some_webs(60, 11) + [THREE, TWICE, FIVE, LINE, YOUNG, MOST_WEB, Web(1, []), Web(2, [(1, 0)])]
TREES = [
    LINE, Web(1, []), Web(2, [(1, 0)]), Web(4, [(0, 1), (0, 2), (2, 3)]), Web(5, [(4, 3), (3, 2), (4, 1), (1, 0)]),
    Web(5, [(1, 0), (3, 4)]), Web(6, [(2, 0), (0, 1), (2, 3), (3, 5), (2, 4)]),
]
TELLING = [machine for machine in [WEEK, FLAGS, FEW, RING, MIXED, CLOCK, WINS, LAST] + some_machines(80)
           if is_telling(machine, 0)]


def seconds(web, house):
    return [tie for tie, pair in enumerate(web.ties) if pair[1] == house]


def rows_by_hand(web, steps):
    """The rows, each meeting told by what the younger one's row has more than a copy of it behind the last one."""
    rows = [[] for _ in range(web.houses)]
    last = [[] for _ in web.ties]
    acts = 0
    for step in steps:
        if step[0] == "do":
            rows[step[1]].append(acts)
            acts += 1
        else:
            elder, younger = web.ties[step[1]]
            joined = rows[elder] + [act for act in rows[younger] if act not in last[step[1]]]
            rows[elder], rows[younger], last[step[1]] = list(joined), list(joined), list(joined)
    return tuple(map(tuple, rows))


def end_of(machine, web, first, steps):
    """(standing, how many steps were told) of a run that may end with a meeting that is not told."""
    net = Net(machine, web, first)
    for step in steps:
        try:
            net.do(*step[1:]) if step[0] == "do" else net.meet(step[1])
        except Untold:
            break
    return (net.states, net.archives), len(net.steps)


class PaperTest(unittest.TestCase):
    def test_papers(self):
        for web in WEBS + TREES:
            paper = elder_paper(web=web)
            self.assertTrue(is_tupled(paper))
            wrong = [house for house in range(web.houses) if len(seconds(web, house)) > 1]
            if not is_forest(web):
                word, ring = paper
                self.assertEqual((word, len(ring)), ("ring", len(ring_paper(web))))
                self.check_ring(web, ring)
            elif wrong:
                self.assertEqual(paper, ("elders", wrong[0], *seconds(web, wrong[0])[:2]))
            else:
                self.assertIsNone(paper)

    def check_ring(self, web, ring):
        self.assertEqual(list(ring), sorted(set(ring)))
        ends = [house for tie in ring for house in web.ties[tie]]
        self.assertEqual({ends.count(house) for house in ends}, {2})

    def test_houses_second_in_two_ties_and_in_neither(self):
        self.assertEqual(elder_paper(YOUNG), ("elders", 1, 0, 1))
        self.assertEqual(elder_paper(Web(4, [(1, 3), (0, 3), (2, 3)])), ("elders", 3, 0, 1))
        self.assertEqual(elder_paper(Web(6, [(0, 5), (1, 2), (1, 5), (3, 2)])), ("elders", 2, 1, 3))
        self.assertEqual(elder_paper(Web(5, [(0, 4), (1, 4), (4, 2), (3, 2)])), ("elders", 2, 2, 3))
        for web in TREES:
            self.assertIsNone(elder_paper(web))

    def test_rings_of_all_lengths(self):
        for houses in range(2, 13):
            ties = [(house, (house + 1) % houses) for house in range(houses)]
            self.assertEqual(elder_paper(Web(houses, ties)), ("ring", tuple(range(houses))))
            self.check_ring(Web(12, ties + [(0, 11)] * (houses < 12)), tuple(range(houses)))


class ShownTest(unittest.TestCase):
    def test_rows(self):
        rolls = random.Random(1)
        for web in TREES:
            for many in (0, 5, 30, 60):
                steps = some_steps(web, 8, many, rolls)
                rows = shown_rows(web=web, steps=[list(step) for step in steps])
                self.assertEqual(repr_of(rows), repr_of(rows_by_hand(web, steps)))
                for row, heard in zip(rows, heard_after(web, steps)[0]):
                    self.assertEqual(tuple(sorted(row)), heard)
                self.check_acts_of_one_house(rows, steps)

    def check_acts_of_one_house(self, rows, steps):
        where = [step[1] for step in steps if step[0] == "do"]
        for row in rows:
            for house in set(where):
                acts = [act for act in row if where[act] == house]
                self.assertEqual(acts, sorted(acts))

    def test_each_house_is_where_its_row_leads(self):
        rolls = random.Random(2)
        for machine in TELLING:
            for web in TREES:
                steps = some_steps(web, machine.deeds, 30, rolls, 0.5)
                deeds = [step[2] for step in steps if step[0] == "do"]
                standing, told = end_of(machine, web, 0, steps)
                self.assertEqual(told, len(steps))
                rows = shown_rows(web, steps)
                self.assertEqual(standing[0], tuple(done(machine, 0, [deeds[act] for act in row]) for row in rows))

    def test_the_elder_goes_ahead(self):
        self.assertEqual(shown_rows(Web(2, [(1, 0)]), (("do", 0, 0), ("do", 1, 0), ("meet", 0))), ((1, 0), (1, 0)))
        steps = (("do", 2, 0), ("do", 0, 1), ("meet", 1), ("meet", 0), ("do", 1, 5), ("meet", 1), ("do", 0, 0), ("meet", 0))
        self.assertEqual(shown_rows(LINE, steps), ((1, 0, 3, 2), (1, 0, 3, 2), (1, 0, 2)))

    def test_four_hundred_steps(self):
        steps = some_steps(TREES[6], 8, 400, random.Random(3))
        self.assertEqual(shown_rows(TREES[6], steps), rows_by_hand(TREES[6], steps))

    def test_webs_with_a_paper(self):
        for web in WEBS:
            if elder_paper(web) is not None:
                self.assertEqual(repr_of(raised(self, Refused, shown_rows, web, None)["at"]), repr_of(web))

    def test_steps_that_are_none(self):
        steps = (("do", 0, 7), ("meet", 1), ("do", 2, 0))
        for at in range(3):
            for bent in bent_steps(steps, at):
                if bent[at] != ("do", 0, 7):
                    self.assertEqual(raised(self, BadSteps, shown_rows, LINE, bent), {"at": at})
        self.assertEqual(raised(self, BadSteps, shown_rows, LINE, steps * 134), {"at": -1})
        for value in any_values():
            at = 0 if isinstance(value, (list, tuple)) else -1
            self.assertEqual(raised(self, BadSteps, shown_rows, LINE, value), {"at": at})


def orders(machine, first, deeds):
    return {done(machine, first, order) for order in itertools.permutations(deeds)}


def order_pairs(machine, first, deeds):
    """The pairs of deeds left and state that orders come through."""
    pairs = {(tuple(sorted(deeds)), first)}
    fresh = list(pairs)
    while fresh:
        left, state = fresh.pop()
        for deed in set(left):
            behind = list(left)
            behind.remove(deed)
            pair = (tuple(behind), machine.tables[deed][state])
            if pair not in pairs:
                pairs.add(pair)
                fresh.append(pair)
    return pairs


class OrderTest(unittest.TestCase):
    def test_all_orders_of_few_deeds(self):
        rolls = random.Random(4)
        for machine in some_machines(40) + [TURN, SWAP, WINS, LAST, MIXED, WEEK]:
            for many in range(6):
                deeds = [rolls.randrange(machine.deeds) for _ in range(many)]
                first = rolls.randrange(machine.states)
                self.check(machine, first, deeds)

    def check(self, machine, first, deeds):
        ends = orders(machine, first, deeds)
        pairs = len(order_pairs(machine, first, deeds))
        for state in range(machine.states):
            row = order_of(machine=machine, first=first, deeds=deeds, state=state, most=pairs)
            if state in ends:
                self.assertEqual((sorted(row), done(machine, first, row)), (sorted(deeds), state))
                self.assertTrue(is_tupled(row))
            else:
                self.assertIsNone(row)
                if pairs > 1:
                    told = raised(self, TooGreat, order_of, machine, first, deeds, state, most=pairs - 1)
                    self.assertEqual(told, {"most": pairs - 1})

    def test_orders_that_are_told_hold_whatever_most(self):
        for most in range(1, 40):
            try:
                row = order_of(WEEK, 0, (0, 1) * 5, 6, most=most)
                self.assertEqual((sorted(row), done(WEEK, 0, row)), ([0] * 5 + [1] * 5, 6))
            except TooGreat as error:
                self.assertEqual(error.most, most)
                self.assertGreater(len(order_pairs(WEEK, 0, (0, 1) * 5)), most)

    def test_four_hundred_deeds(self):
        self.assertEqual(len(order_of(WEEK, 0, (0, 1) * 200, 2, most=20000)), 400)
        self.assertIsNone(order_of(FLAGS, 0, (0,) * 400, 3, most=401))
        raised(self, TooGreat, order_of, FLAGS, 0, (0,) * 400, 3, most=400)
        self.assertIsNone(order_of(FLAGS, 0, (0, 1) * 80, 2, most=20000))
        eight = Machine([(1, 0, 2)] * 8)
        raised(self, TooGreat, order_of, eight, 0, tuple(range(8)) * 50, 2, most=20000)
        self.assertEqual(len(order_of(eight, 0, tuple(range(8)) * 50, 0, most=20000)), 400)
        self.assertEqual(order_of(WEEK, 3, (), 3, most=1), ())
        self.assertIsNone(order_of(WEEK, 3, [], 4, most=1))

    def test_any_value(self):
        for value in no_numbers() + [7]:
            self.assertIs(raised(self, NoState, order_of, WEEK, value, value, value, most=9)["state"], value)
            self.assertIs(raised(self, NoState, order_of, WEEK, 0, (0, 1), value, most=1)["state"], value)
        for value in any_values() + [(2,), [0, 2], (0,) * 10001]:
            raised(self, BadRow, order_of, WEEK, 0, value, value, most=9)
        self.assertEqual(raised(self, BadRow, order_of, WEEK, 0, [0, 1, True], None, most=9), {"at": 2})
        with self.assertRaises(TypeError):
            order_of(WEEK, 0, (), 0, 9)


def holds(web, tables, steps):
    """Whether a run goes wrong, told by all orders of what each house heard."""
    machine = Machine(tables)
    (states, _), told = end_of(machine, web, 0, steps)
    if not is_telling(machine, 0) or told < len(steps):
        return is_telling(machine, 0) and told == len(steps) - 1
    deeds = [step[2] for step in steps if step[0] == "do"]
    heard = heard_after(web, steps)[0]
    return any(state not in orders(machine, 0, [deeds[act] for act in acts]) for state, acts in zip(states, heard))


class ElderRunTest(unittest.TestCase):
    def test_each_run_that_is_told_holds(self):
        for web in WEBS + TREES + [Web(4, [(1, 3), (0, 3), (2, 3)]), Web(6, [(0, 5), (1, 2), (1, 5), (3, 2)])]:
            run = elder_run(web=web)
            if elder_paper(web) is None:
                self.assertIsNone(run)
                continue
            tables, steps = run
            self.assertTrue(is_tupled(run))
            deeds = [step[2] for step in steps if step[0] == "do"]
            self.assertTrue(len(steps) <= 100 and len(deeds) <= 4 and set(deeds) <= {0, 1} and len(tables) == 2)
            self.assertIs(elder_holds(web, run, most=100), True)
            self.assertTrue(holds(web, tables, steps))
            self.assertIs(elder_holds(web=web, value=[list(map(list, tables)), list(map(list, steps))], most=9), True)

    def test_shortened_and_bent(self):
        for web in (THREE, TWICE, YOUNG, FIVE):
            tables, steps = elder_run(web)
            for at in range(len(steps)):
                cut = steps[:at] + steps[at + 1:]
                self.assertIs(elder_holds(web, (tables, steps[:at]), most=100), False)
                self.assertIs(elder_holds(web, (tables, cut), most=100), holds(web, tables, cut))
                for bent in bent_steps(steps, at):
                    self.assertIs(elder_holds(web, (tables, bent), most=100), False)
            self.assertIs(elder_holds(web, (tables, ()), most=1), False)
            # What is not told must be told of the last step alone.
            more = steps + (("do", 0, 0),)
            self.assertIs(elder_holds(web, (tables, more), most=100), holds(web, tables, more))

    def test_other_machines(self):
        rolls = random.Random(5)
        found = set()
        for web in (THREE, TWICE, YOUNG, LINE, Web(2, [(0, 1)]), Web(4, [(0, 1), (2, 1), (3, 2)])):
            for machine in some_machines(50, 3) + [WINS, LAST, WEEK, TURN, SWAP, FLAGS]:
                steps = some_steps(web, machine.deeds, rolls.randrange(4, 14), rolls)
                if sum(step[0] == "do" for step in steps) > 6:
                    continue
                told = elder_holds(web, (machine.tables, steps), most=20000)
                self.assertIs(told, holds(web, machine.tables, steps))
                found.add((is_telling(machine, 0), told, elder_paper(web) is None))
        self.assertEqual(found, {(True, True, False), (True, False, False), (True, False, True), (False, False, False),
                                 (False, False, True)})

    def test_machines_that_do_not_tell(self):
        steps = (("do", 0, 0), ("do", 1, 1), ("meet", 0))
        self.assertIs(elder_holds(Web(2, [(0, 1)]), (TURN.tables, steps), most=100), False)
        self.assertEqual(end_of(TURN, Web(2, [(0, 1)]), 0, steps)[1], 2)

    def test_too_great(self):
        tables, ring = ((1, 2, 0), (0, 1, 2)), (("meet", 0), ("meet", 1))
        steps = (("do", 0, 0),) * 2 + (("do", 0, 1),) * 6 + ring
        self.assertIs(elder_holds(TWICE, (tables, steps), most=21), True)
        self.assertEqual(raised(self, TooGreat, elder_holds, TWICE, (tables, steps), most=20), {"most": 20})
        self.assertIs(elder_holds(TWICE, (tables, steps + (None,)), most=1), False)

    def test_long_runs(self):
        rolls = random.Random(6)
        two = [[(state + 2) % 12 for state in range(12)]] * 2
        tree = Web(12, [(house // 2, house) for house in range(1, 12)])
        for web in (MOST_WEB, tree):
            for meetings in (0.2, 0.5, 0.8):
                steps = some_steps(web, 2, 400, rolls, meetings)
                states = end_of(Machine(two), web, 0, steps)[0][0]
                wrong = any(state != len(heard) * 2 % 12 for state, heard in zip(states, heard_after(web, steps)[0]))
                self.assertIs(wrong, web is MOST_WEB)
                self.assertIs(elder_holds(web, (two, steps), most=20000), wrong)
        idle = [[0] * 12] * 8
        self.assertIs(elder_holds(MOST_WEB, (idle, (("do", 0, 0),) * 400), most=401), False)

    def test_any_value(self):
        tables, steps = elder_run(YOUNG)
        for value in any_values() + [tables, steps, (tables,), (tables, steps, steps), (steps, tables), nested(38, tables)]:
            self.assertIs(elder_holds(YOUNG, value, most=100), False)
            self.assertIs(elder_holds(YOUNG, (value, steps), most=100), value is tables)
            self.assertIs(elder_holds(YOUNG, (tables, value), most=100), value is steps)
        for at in range(2):
            for value in any_values() + [(1, 1), (1, 1, 3), (1, 1, -1), (1, True, 2)]:
                bent = tables[:at] + (value,) + tables[at + 1:]
                self.assertIs(elder_holds(YOUNG, (bent, steps), most=100), False)
        self.assertIs(elder_holds(YOUNG, (tables[:1], steps), most=100), False)
        self.assertIs(elder_holds(LINE, (tables, steps), most=100), False)
        with self.assertRaises(TypeError):
            elder_holds(YOUNG, (tables, steps), 100)


def standings(machine, web, first):
    """All standings to which told steps lead."""
    found = {((first,) * web.houses, (first,) * len(web.ties))}
    fresh = list(found)
    while fresh:
        standing = fresh.pop()
        for step in list(all_steps(web, machine.deeds, 1)):
            net = Net(machine, web, first)
            net.states, net.archives = standing
            try:
                net.do(*step[0][1:]) if step[0][0] == "do" else net.meet(step[0][1])
            except Untold:
                continue
            behind = net.states, net.archives
            if behind not in found:
                found.add(behind)
                fresh.append(behind)
    return found


class UntoldRunTest(unittest.TestCase):
    def check(self, machine, web, first, many):
        """A run against a search through all runs of few steps."""
        run = untold_run(machine=machine, web=web, first=first, most=20000)
        for length in range(1, many + 1):
            wrong = any(end_of(machine, web, first, steps)[1] == length - 1 for steps in all_steps(web, machine.deeds, length))
            if wrong or (run is not None and len(run) <= length):
                self.assertEqual((run is not None and len(run), wrong), (length, True))
                self.assertEqual(end_of(machine, web, first, run)[1], length - 1)
                self.assertTrue(is_tupled(run))
                return length
        return None

    def test_against_all_runs_of_few_steps(self):
        found = set()
        pair = Web(2, [(0, 1)])
        for machine in machines_of(2, 2) + [TURN, SWAP, WINS, LAST, Machine([(1, 2, 0)]), Machine([(1, 1, 0)])]:
            found.add(self.check(machine, pair, 0, 4))
            found.add(self.check(machine, TWICE, 1, 3))
        for machine in (WINS, LAST, Machine([(1, 2, 3, 3)]), SWAP):
            found.add(self.check(machine, YOUNG, 0, 5))
        self.assertEqual(found, {None, 2, 4, 5})

    def test_none_where_the_machine_tells_and_there_is_no_paper(self):
        for web in (LINE, Web(2, [(1, 0)]), Web(4, [(0, 1), (0, 2)])):
            for machine in (WINS, FEW, Machine([(1, 2, 0)])):
                self.assertIsNone(untold_run(machine, web, 0, most=20000))

    def test_runs_on_four_houses(self):
        rolls = random.Random(7)
        for _ in range(30):
            web = Web(4, [rolls.sample(range(4), 2) for _ in range(rolls.randrange(8))])
            machine = Machine([[rolls.randrange(4) for _ in range(4)] for _ in range(rolls.randrange(1, 4))])
            try:
                run = untold_run(machine, web, 0, most=20000)
            except TooGreat as error:
                self.assertEqual(error.most, 20000)
                continue
            if run is not None:
                self.assertEqual((run[-1][0], end_of(machine, web, 0, run)[1]), ("meet", len(run) - 1))

    def test_too_great(self):
        for machine, web in ((FEW, TWICE), (FEW, LINE), (Machine([(1, 0)]), LINE), (WINS, Web(2, [(0, 1)])), (WINS, LINE)):
            many = len(standings(machine, web, 0))
            self.assertIsNone(untold_run(machine, web, 0, most=many))
            self.assertEqual(raised(self, TooGreat, untold_run, machine, web, 0, most=many - 1), {"most": many - 1})
            self.assertEqual(raised(self, TooGreat, untold_run, machine, web, 0, most=1), {"most": 1})
        self.assertIsNone(untold_run(FEW, Web(1, []), 2, most=1))

    def test_too_great_only_if_there_are_more(self):
        many = len(standings(WINS, YOUNG, 0))
        self.assertEqual(len(untold_run(WINS, YOUNG, 0, most=many)), 5)
        for most in range(1, many):
            try:
                self.assertEqual(len(untold_run(WINS, YOUNG, 0, most=most)), 5)
            except TooGreat as error:
                self.assertEqual(error.most, most)

    def test_any_value(self):
        for value in no_numbers() + [3]:
            self.assertIs(raised(self, NoState, untold_run, WINS, LINE, value, most=1)["state"], value)
        with self.assertRaises(TypeError):
            untold_run(WINS, LINE, 0, 100)
