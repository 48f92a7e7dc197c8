"""[1], [2], [3], [44], [45]: two copies, meetings that break again and again, and what is needed."""

import itertools
import random
import unittest

from houseslessties.breaks import Twin, doubled_deed, silent_break, silent_holds
from houseslessties.errors import NoDeed, NoState, Refused, Uncommuting
from houseslessties.machines import Machine
from houseslessties.rows import commuting_paper
from tests.cases import (
    CLOCK, FEW, FLAGS, RING, TURN, WEEK, any_values, done, is_tupled, machines_of, nested, no_numbers, raised, reached,
    repr_of, some_machines,
)

FLIP = Machine([(1, 0)])
IDLE = Machine([(0, 1), (0, 1)])
MACHINES = [WEEK, FLAGS, FEW, RING, FLIP, IDLE, CLOCK] + some_machines(60) + machines_of(3, 1)
COMMUTING = [
    (machine, first) for machine in MACHINES for first in range(machine.states) if commuting_paper(machine, first) is None
]
KINDS = list(itertools.product((1, 2, 3), (True, False)))


class OwnTwin:
    """What the document tells of a twin, with the acts that each side has heard beside it."""

    def __init__(self, machine, first, numbers, keeps):
        self.machine, self.first, self.numbers, self.keeps = machine, first, numbers, keeps
        self.sides = [{"state": first, "copy": first, "mark": 0, "kept": None} for _ in range(2)]
        self.heard = [set(), set()]
        self.deeds = []

    def do(self, side, deed):
        self.heard[side].add(len(self.deeds))
        self.deeds.append(deed)
        self.sides[side]["state"] = self.machine.tables[deed][self.sides[side]["state"]]

    def ahead(self):
        one, other = self.sides
        if self.numbers == 1:
            return 0 if one["copy"] != other["copy"] else None
        if self.numbers == 2:
            return 0 if one["mark"] != other["mark"] else None
        return {0: None, 1: 0, 2: 1}[(one["mark"] - other["mark"]) % 3]

    def meet(self, side, whole):
        mine, other = self.sides[side], self.sides[1 - side]
        ahead = self.ahead()
        if ahead is None:
            base = self.sides[0]["copy"]
        elif self.keeps:
            base = self.sides[ahead]["kept"]
        else:
            base = self.sides[1 - ahead]["copy"]
        ends = {end for at, end in reached(self.machine, base, mine["state"]) if at == other["state"]}
        mine["mark"] = mine["mark"] if ahead == side else (other["mark"] + 1) % self.numbers
        mine["kept"] = other["state"] if self.keeps else None
        mine["state"], = ends
        mine["copy"] = mine["state"]
        self.heard[side] = self.heard[0] | self.heard[1]
        if whole:
            other["state"], other["copy"], other["mark"] = mine["state"], mine["copy"], mine["mark"]
            self.heard[1 - side] = set(self.heard[side])
        return mine["state"]

    def shown(self):
        return tuple(tuple(side[name] for side in self.sides) for name in ("state", "copy", "mark", "kept"))

    def plain(self):
        """The first state led by what each side has heard, each deed once."""
        return tuple(done(self.machine, self.first, [self.deeds[act] for act in sorted(heard)]) for heard in self.heard)


def shown(twin):
    return twin.states, twin.copies, twin.marks, twin.kept


def some_paces(numbers, deeds, many, rolls, whole=0.3):
    """Deeds ("do", side, deed) and meetings ("meet", side, whole)."""
    sides = 2 if numbers == 3 else 1
    paces = []
    for _ in range(many):
        if rolls.random() < 0.5:
            paces.append(("meet", rolls.randrange(sides), rolls.random() < whole))
        else:
            paces.append(("do", rolls.randrange(2), rolls.randrange(deeds)))
    return paces


def take(twin, pace):
    if pace[0] == "do":
        return twin.do(pace[1], pace[2])
    return twin.meet(side=pace[1], whole=pace[2])


def is_right(machine, first, numbers, keeps, paces):
    """Whether each side always shows what it has heard."""
    twin, own = Twin(machine, first, numbers=numbers, keeps=keeps), OwnTwin(machine, first, numbers, keeps)
    for pace in paces:
        take(twin, pace)
        own.do(*pace[1:]) if pace[0] == "do" else own.meet(*pace[1:])
        if twin.states != own.plain():
            return False
    return True


class TwinTest(unittest.TestCase):
    def test_first(self):
        for numbers, keeps in KINDS:
            twin = Twin(machine=WEEK, first=3, numbers=numbers, keeps=keeps)
            self.assertIs(twin.machine, WEEK)
            told = (twin.first, twin.numbers, twin.keeps, shown(twin), twin.ahead())
            self.assertEqual(repr_of(told), repr_of((3, numbers, keeps, ((3, 3), (3, 3), (0, 0), (None, None)), None)))
        self.assertEqual(repr_of(Twin(WEEK, 3)), repr_of(Twin(WEEK, 3, numbers=2, keeps=True)))

    def test_step_by_step(self):
        rolls = random.Random(1)
        for machine, first in COMMUTING:
            for numbers, keeps in KINDS:
                twin, own = Twin(machine, first, numbers=numbers, keeps=keeps), OwnTwin(machine, first, numbers, keeps)
                for pace in some_paces(numbers, machine.deeds, 40, rolls, rolls.choice([0, 0.3, 0.7])):
                    self.assertEqual(repr_of(twin.ahead()), repr_of(own.ahead()))
                    told = take(twin, pace)
                    if pace[0] == "do":
                        own.do(*pace[1:])
                        self.assertEqual(repr_of(told), repr_of(twin.states[pace[1]]))
                    else:
                        self.assertEqual(repr_of(told), repr_of(own.meet(*pace[1:])))
                    self.assertEqual(repr_of(shown(twin)), repr_of(own.shown()))
                    self.assertTrue(is_tupled(shown(twin)))

    def test_a_meeting_that_breaks_again_and_again(self):
        twin = Twin(WEEK, 0, numbers=3)
        self.assertEqual((twin.do(side=0, deed=0), twin.do(1, 1), twin.meet(whole=False), twin.ahead()), (1, 3, 4, 0))
        self.assertEqual(shown(twin), ((4, 3), (4, 0), (1, 0), (3, None)))
        self.assertEqual((twin.meet(side=1, whole=False), twin.ahead()), (4, 1))
        self.assertEqual(shown(twin), ((4, 4), (4, 4), (1, 2), (3, 4)))
        self.assertEqual((twin.meet(side=0, whole=False), twin.ahead()), (4, 0))
        self.assertEqual(shown(twin), ((4, 4), (4, 4), (0, 2), (4, 4)))
        self.assertEqual((twin.do(1, 0), twin.meet(), twin.ahead()), (5, 5, None))
        self.assertEqual(shown(twin), ((5, 5), (5, 5), (0, 0), (5, 4)))

    def test_the_default_is_a_whole_meeting_of_side_0(self):
        twins = [Twin(WEEK, 0, numbers=3) for _ in range(2)]
        for twin in twins:
            twin.do(1, 1)
        self.assertEqual(twins[0].meet(), twins[1].meet(side=0, whole=True))
        self.assertEqual(repr_of(twins[0]), repr_of(twins[1]))
        self.assertEqual(twins[0].marks, (1, 1))

    def test_only_by_name(self):
        with self.assertRaises(TypeError):
            Twin(WEEK, 0, 2)
        with self.assertRaises(TypeError):
            Twin(WEEK, 0).meet(0)

    def test_long_runs(self):
        rolls = random.Random(2)
        for numbers, keeps in KINDS:
            twin, own = Twin(CLOCK, 5, numbers=numbers, keeps=keeps), OwnTwin(CLOCK, 5, numbers, keeps)
            for pace in some_paces(numbers, 8, 10000, rolls):
                take(twin, pace)
                own.do(*pace[1:]) if pace[0] == "do" else own.meet(*pace[1:])
            self.assertEqual(repr_of(shown(twin)), repr_of(own.shown()))
            if keeps and numbers > 1:
                self.assertEqual(twin.states, own.plain())

    def test_which_errors_come(self):
        for value in no_numbers() + [7]:
            self.assertIs(raised(self, NoState, Twin, WEEK, value, numbers=value, keeps=value)["state"], value)
        self.assertEqual(raised(self, NoState, Twin, TURN, 4, numbers=0, keeps=0), {"state": 4})
        told = raised(self, Uncommuting, Twin, TURN, 0, numbers=0, keeps=0)
        self.assertEqual(tuple(told.values()), commuting_paper(TURN, 0))
        for value in no_numbers() + [0, 4]:
            self.assertIs(raised(self, Refused, Twin, WEEK, 0, numbers=value)["at"], value)
            self.assertEqual(raised(self, Refused, Twin, WEEK, 0, numbers=4, keeps=value), {"at": 4})
        for value in no_numbers() + [0, 1]:
            if value is not True and value is not False:
                self.assertIs(raised(self, Refused, Twin, WEEK, 0, numbers=3, keeps=value)["at"], value)

    def test_nothing_has_changed_then(self):
        for numbers, keeps in KINDS:
            twin = Twin(WEEK, 0, numbers=numbers, keeps=keeps)
            twin.do(0, 1)
            twin.meet(whole=False)
            before = repr_of(twin)
            for value in no_numbers() + [2]:
                self.assertIs(raised(self, Refused, twin.do, value, value)["at"], value)
                self.assertIs(raised(self, NoDeed, twin.do, 1, value)["deed"], value)
                self.assertIs(raised(self, Refused, twin.meet, side=value, whole=None)["at"], value)
                if value is not True and value is not False:
                    self.assertIs(raised(self, Refused, twin.meet, side=0, whole=value)["at"], value)
            for value in (0, 1):
                self.assertIs(raised(self, Refused, twin.meet, side=0, whole=value)["at"], value)
            if numbers < 3:
                self.assertEqual(raised(self, Refused, twin.meet, side=1, whole=None), {"at": 1})
            self.assertEqual(repr_of(twin), before)


class NeededTest(unittest.TestCase):
    def test_silent_breaks(self):
        for machine, first in COMMUTING:
            orbit = {state for state, in reached(machine, first)}
            silent = [one for one in orbit for other, in reached(machine, one)
                      if other != one and (one,) in reached(machine, other)]
            paper = silent_break(machine=machine, first=first)
            if not silent:
                self.assertIsNone(paper)
                continue
            word, archive, here, there = paper
            self.assertEqual((word, archive in orbit, is_tupled(paper)), ("silent", True, True))
            self.assertNotEqual(done(machine, archive, there), archive)
            self.assertEqual(done(machine, archive, there + here), archive)
            self.assertIs(silent_holds(machine, first, paper), True)
            self.assertIs(silent_holds(machine=machine, first=first, value=[word, archive, list(here), list(there)]), True)

    def test_papers_that_are_bent(self):
        paper = ("silent", 1, (0,), (0,))
        for at in range(4):
            for value in any_values() + ["Silent", "silen", b"silent", 2, 7, (0, 0), (1,), (True,), [0, None]]:
                bent = paper[:at] + (value,) + paper[at + 1:]
                self.assertIs(silent_holds(FLIP, 0, bent), False, bent)
        for value in any_values() + [(), paper[:3], paper + (0,), [paper], "silent", nested(40, paper)]:
            self.assertIs(silent_holds(FLIP, 0, value), False)

    def test_papers_that_hold_or_not(self):
        self.assertIs(silent_holds(WEEK, 0, ("silent", 6, (0,) * 6, [0])), True)
        self.assertIs(silent_holds(WEEK, 0, ("silent", 6, (1, 1), (0,))), True)
        self.assertIs(silent_holds(WEEK, 0, ("silent", 6, (1, 1), (0, 0))), False)
        self.assertIs(silent_holds(WEEK, 0, ("silent", 6, (), (0,) * 7)), False)
        self.assertIs(silent_holds(WEEK, 0, ("silent", 6, (), ())), False)
        self.assertIs(silent_holds(WEEK, 0, ("silent", 7, (1, 1), (0,))), False)
        # A state that lies outside of the orbit tells of no run.
        apart = Machine([(0, 2, 1)])
        self.assertIs(silent_holds(apart, 1, ("silent", 2, (0,), (0,))), True)
        self.assertIs(silent_holds(apart, 0, ("silent", 2, (0,), (0,))), False)

    def test_rows_of_ten_thousand_deeds(self):
        self.assertIs(silent_holds(FLIP, 0, ("silent", 0, (0,) * 9999, [0] * 9999)), True)
        self.assertIs(silent_holds(WEEK, 0, ("silent", 0, (0,) * 9999 + (1,), (0, 1) * 5000)), True)
        self.assertIs(silent_holds(FLIP, 0, ("silent", 0, (0,) * 10001, (0,) * 9999)), False)
        self.assertIs(silent_holds(FLIP, 0, ("silent", 0, (0,) * 9999, (0,) * 10001)), False)

    def test_doubled_deeds(self):
        for machine, first in COMMUTING:
            doubled = [(state, deed) for state, in reached(machine, first) for deed in range(machine.deeds)
                       if done(machine, state, (deed, deed)) != done(machine, state, (deed,))]
            self.assertEqual(repr_of(doubled_deed(machine=machine, first=first)), repr_of(min(doubled, default=None)))
        self.assertEqual(doubled_deed(FEW, 0), (0, 0))
        self.assertIsNone(doubled_deed(FLAGS, 0))
        # The least state of the orbit is told, not the first one of the run.
        self.assertEqual(doubled_deed(Machine([(1, 0, 2)]), 1), (0, 0))

    def test_any_value(self):
        for value in no_numbers() + [7]:
            self.assertIs(raised(self, NoState, silent_break, WEEK, value)["state"], value)
            self.assertIs(raised(self, NoState, silent_holds, WEEK, value, value)["state"], value)
            self.assertIs(raised(self, NoState, doubled_deed, WEEK, value)["state"], value)
        told = commuting_paper(TURN, 1)
        self.assertEqual(tuple(raised(self, Uncommuting, silent_break, TURN, 1).values()), told)
        self.assertEqual(tuple(raised(self, Uncommuting, silent_holds, TURN, 1, None).values()), told)
        self.assertEqual(tuple(raised(self, Uncommuting, doubled_deed, TURN, 1).values()), told)

    def test_two_numbers_and_three_are_right(self):
        rolls = random.Random(3)
        for machine, first in COMMUTING:
            for numbers in (2, 3):
                for _ in range(3):
                    self.assertTrue(is_right(machine, first, numbers, True, some_paces(numbers, machine.deeds, 40, rolls)))

    def test_one_number_is_right_without_silent_breaks_alone(self):
        rolls = random.Random(4)
        for machine, first in COMMUTING:
            paper = silent_break(machine, first)
            if paper is None:
                for _ in range(4):
                    self.assertTrue(is_right(machine, first, 1, True, some_paces(1, machine.deeds, 40, rolls)))
            else:
                self.assertFalse(is_right(machine, first, 1, True, self.silent_run(machine, first, paper)))

    def silent_run(self, machine, first, paper):
        """Behind a meeting in the archive the break of a meeting that leaves both copies alike."""
        _, archive, here, there = paper
        way = next(row for length in range(machine.states) for row in itertools.product(range(machine.deeds), repeat=length)
                   if done(machine, first, row) == archive)
        paces = [("do", 0, deed) for deed in way] + [("meet", 0, True)]
        paces += [("do", 0, deed) for deed in here] + [("do", 1, deed) for deed in there]
        return paces + [("meet", 0, False), ("meet", 0, True)]

    def test_keeping_nothing_is_right_without_doubled_deeds_alone(self):
        rolls = random.Random(5)
        for machine, first in COMMUTING:
            paper = doubled_deed(machine, first)
            for numbers in (1, 2, 3):
                if paper is None:
                    for _ in range(3):
                        paces = some_paces(numbers, machine.deeds, 40, rolls)
                        self.assertTrue(is_right(machine, first, numbers, False, paces))
                else:
                    self.assertFalse(is_right(machine, first, numbers, False, self.doubled_run(machine, first)))

    def doubled_run(self, machine, first):
        """A deed is doubled from the first state on, too, as deeds commute: so it is done there and counted again."""
        deed = next(deed for deed in range(machine.deeds)
                    if done(machine, first, (deed, deed)) != done(machine, first, (deed,)))
        return [("do", 1, deed), ("meet", 0, False), ("meet", 0, True)]
