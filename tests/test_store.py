"""[1], [2], [3], [52], [53], [54]: a store against a net that is kept by hand, copied on foot and put back."""

import random
import unittest

from houseslessties.errors import NoDeed, NoHouse, NoState, NoTie, Refused, Untold
from houseslessties.nets import Net, standing_after
from houseslessties.store import Store
from houseslessties.webs import Web
from tests.cases import (
    CLOCK, FIVE, FLAGS, LINE, MIXED, MOST_MIXED, MOST_WEB, RING, SWAP, THREE, TURN, TWICE, WEEK, is_tupled, no_numbers,
    raised, reached, repr_of, some_machines, some_webs,
)

MACHINES = some_machines(20, 5) + [WEEK, RING, MIXED, SWAP, TURN, FLAGS]
WEBS = some_webs(10, 31) + [THREE, TWICE, FIVE, LINE, Web(1, []), Web(2, [(1, 0)]), Web(3, [(0, 1), (0, 1), (2, 1)])]
SHOWN = ("states", "archives", "steps", "copies", "backup", "caught")


class OwnStore:
    """What the document tells of a store."""

    def __init__(self, machine, web, first):
        self.machine, self.web = machine, web
        self.states, self.archives = [first] * web.houses, [first] * len(web.ties)
        self.steps, self.backup, self.caught = [], None, None
        self.give_up()

    def give_up(self):
        self.copies, self.tie_copies = [None] * self.web.houses, [None] * len(self.web.ties)
        self.lost = []

    def note(self, step, houses):
        """Keeps a step, and that the walk under way does not catch it."""
        if any(self.copies[house] is not None for house in houses):
            self.lost.append(len(self.steps))
        self.steps.append(step)

    def do(self, house, deed):
        self.note(("do", house, deed), [house])
        self.states[house] = self.machine.tables[deed][self.states[house]]
        return self.states[house]

    def join(self, tie):
        one, other = self.web.ties[tie]
        ends = {end for at, end in reached(self.machine, self.archives[tie], self.states[one]) if at == self.states[other]}
        return ends.pop() if len(ends) == 1 else None

    def meet(self, tie):
        joined = self.join(tie)
        if joined is None:
            return None
        unread = [house for house in self.web.ties[tie] if self.copies[house] is None]
        if len(unread) == 1:
            self.read(unread[0])
        self.note(("meet", tie), self.web.ties[tie])
        for house in self.web.ties[tie]:
            self.states[house] = joined
        self.archives[tie] = joined
        return joined

    def read(self, house):
        self.copies[house] = self.states[house]
        for tie, pair in enumerate(self.web.ties):
            if house in pair and all(self.copies[one] is not None for one in pair):
                self.tie_copies[tie] = self.archives[tie]
        if None not in self.copies:
            self.backup = tuple(self.copies), tuple(self.tie_copies)
            self.caught = tuple(step for at, step in enumerate(self.steps) if at not in self.lost)
            self.give_up()
        return self.states[house]

    def put_back(self):
        self.states, self.archives = map(list, self.backup)
        self.steps = list(self.caught)
        self.give_up()


def shown(store):
    return tuple(getattr(store, name) for name in SHOWN)


def shown_own(own):
    told = tuple(own.states), tuple(own.archives), tuple(own.steps), tuple(own.copies)
    return told + (own.backup, own.caught)


def some_paces(web, machine, many, rolls, backs=0.08):
    """Deeds, meetings, reads, and nets put back, rolled."""
    paces = []
    for _ in range(many):
        roll = rolls.random()
        if roll < backs:
            paces.append(("back",))
        elif roll < 0.3:
            paces.append(("read", rolls.randrange(web.houses)))
        elif roll < 0.6 and web.ties:
            paces.append(("meet", rolls.randrange(len(web.ties))))
        else:
            paces.append(("do", rolls.randrange(web.houses), rolls.randrange(machine.deeds)))
    return paces


class StoreTest(unittest.TestCase):
    def take(self, store, own, pace):
        """One pace in a store and in the own one, with what each returns or raises."""
        before = repr_of(store)
        if pace[0] == "do":
            self.assertEqual(repr_of(store.do(*pace[1:])), repr_of(own.do(*pace[1:])))
        elif pace[0] == "back":
            if own.backup is None:
                self.assertEqual(raised(self, Refused, store.put_back), {"at": None})
                self.assertEqual(repr_of(store), before)
            else:
                self.assertIsNone(store.put_back())
                own.put_back()
        elif pace[0] == "read":
            if own.copies[pace[1]] is None:
                self.assertEqual(repr_of(store.read(pace[1])), repr_of(own.read(pace[1])))
            else:
                self.assertEqual(raised(self, Refused, store.read, pace[1]), {"at": pace[1]})
                self.assertEqual(repr_of(store), before)
        else:
            joined = own.meet(pace[1])
            if joined is None:
                told = raised(self, Untold, store.meet, pace[1])
                one, other = store.web.ties[pace[1]]
                states = store.archives[pace[1]], store.states[one], store.states[other]
                self.assertEqual(tuple(told[name] for name in ("archive", "here", "there")), states)
                self.assertEqual(repr_of(store), before)
            else:
                self.assertEqual(repr_of(store.meet(pace[1])), repr_of(joined))

    def test_first(self):
        store = Store(machine=WEEK, web=THREE, first=6)
        self.assertIs(store.machine, WEEK)
        self.assertIs(store.web, THREE)
        self.assertEqual(store.first, 6)
        told = ((6, 6, 6), (6, 6, 6), (), (None, None, None), None, None)
        self.assertEqual(repr_of(shown(store)), repr_of(told))
        lone = Store(WEEK, Web(1, []), 0)
        self.assertEqual((lone.do(0, 1), lone.read(0), lone.backup, lone.caught), (3, 3, ((3,), ()), (("do", 0, 1),)))
        self.assertEqual(lone.copies, (None,))

    def test_pace_by_pace(self):
        rolls = random.Random(1)
        untold = whole = 0
        for machine in MACHINES:
            for web in WEBS:
                first = rolls.randrange(machine.states)
                store, own = Store(machine, web, first), OwnStore(machine, web, first)
                backup = None
                for pace in some_paces(web, machine, 40, rolls):
                    before = len(store.steps)
                    self.take(store, own, pace)
                    self.assertEqual(repr_of(shown(store)), repr_of(shown_own(own)))
                    untold += pace[0] == "meet" and len(store.steps) == before
                    if store.backup is not backup:
                        backup = store.backup
                        whole += 1
                        self.assertEqual(standing_after(machine, web, first, store.caught), store.backup)
                        self.assertTrue(is_tupled((store.backup, store.caught)))
                self.assertEqual(standing_after(machine, web, first, store.steps), (store.states, store.archives))
        self.assertGreater(min(untold, whole), 200)

    def test_all_goes_on_as_in_a_store_that_did_just_these_steps(self):
        rolls = random.Random(2)
        for machine in MACHINES:
            for web in WEBS:
                store = Store(machine, web, 0)
                for pace in some_paces(web, machine, 30, rolls, 0):
                    self.do_quietly(store, pace)
                if store.backup is None:
                    continue
                store.put_back()
                other = Store(machine, web, 0)
                for step in store.caught:
                    other.do(*step[1:]) if step[0] == "do" else other.meet(step[1])
                self.assertEqual(shown(store)[:4], shown(other)[:4])
                whole = False
                for pace in some_paces(web, machine, 30, rolls, 0):
                    self.assertEqual(self.do_quietly(store, pace), self.do_quietly(other, pace))
                    self.assertEqual(shown(store)[:4], shown(other)[:4])
                    whole = whole or other.backup is not None
                    if whole:
                        self.assertEqual(shown(store)[4:], shown(other)[4:])

    def do_quietly(self, store, pace):
        """What a pace returns, or the name of the error that it raises."""
        try:
            return {"do": store.do, "meet": store.meet, "read": store.read}[pace[0]](*pace[1:])
        except (Refused, Untold) as error:
            return type(error).__name__

    def test_a_meeting_reads_the_other_house_right_ahead(self):
        store = Store(WEEK, LINE, 0)
        store.read(house=1)
        store.do(house=0, deed=0)
        self.assertEqual((store.meet(tie=0), store.copies), (1, (1, 0, None)))
        self.assertEqual((store.do(2, 1), store.meet(1), store.copies), (3, 4, (None, None, None)))
        self.assertEqual(store.backup, ((1, 0, 3), (0, 0)))
        self.assertEqual(store.caught, (("do", 0, 0), ("do", 2, 1)))
        # Neither house was read in a walk under way now: so the next walk catches the meetings, too.
        self.assertEqual((store.read(0), store.read(1), store.read(2)), (1, 4, 4))
        self.assertEqual((store.backup, store.caught), (((1, 4, 4), (1, 4)), store.steps))

    def test_a_house_read_twice_in_a_walk(self):
        store = Store(WEEK, LINE, 0)
        store.read(2)
        store.do(2, 0)
        before = repr_of(store)
        self.assertEqual(raised(self, Refused, store.read, 2), {"at": 2})
        self.assertEqual(repr_of(store), before)
        self.assertEqual((store.read(0), store.read(1), store.read(2)), (0, 0, 1))
        self.assertEqual(store.copies, (None, None, 1))

    def test_a_meeting_that_is_not_told_while_a_walk_is_under_way(self):
        store = Store(TURN, LINE, 0)
        store.do(0, 0)
        store.do(1, 1)
        store.read(0)
        before = repr_of(store)
        self.assertEqual(raised(self, Untold, store.meet, 0), {"archive": 0, "here": 1, "there": 3})
        self.assertEqual((repr_of(store), store.copies), (before, (1, None, None)))

    def test_without_a_whole_copy(self):
        store = Store(WEEK, LINE, 0)
        store.read(0)
        store.read(1)
        before = repr_of(store)
        self.assertEqual(raised(self, Refused, store.put_back), {"at": None})
        self.assertEqual(repr_of(store), before)
        store.read(2)
        self.assertIsNone(store.put_back())
        self.assertIsNone(store.put_back())

    def test_a_walk_under_way_is_given_up(self):
        store = Store(WEEK, LINE, 0)
        for house in range(3):
            store.read(house)
        store.do(1, 1)
        store.read(1)
        store.put_back()
        self.assertEqual(shown(store), ((0, 0, 0), (0, 0), (), (None, None, None), ((0, 0, 0), (0, 0)), ()))
        self.assertEqual(store.read(1), 0)

    def test_two_hundred_steps(self):
        rolls = random.Random(3)
        for machine in (CLOCK, MOST_MIXED):
            store, own = Store(machine, MOST_WEB, 0), OwnStore(machine, MOST_WEB, 0)
            for pace in some_paces(MOST_WEB, machine, 400, rolls, 0.01):
                if len(own.steps) < 200:
                    self.take(store, own, pace)
            self.assertEqual(repr_of(shown(store)), repr_of(shown_own(own)))

    def test_what_was_told_does_not_change_later(self):
        store = Store(WEEK, LINE, 0)
        for house in (2, 0, 1):
            store.do(house, 0)
            store.read(house)
        told = store.backup, store.caught, store.steps, store.states
        before = repr_of(told)
        store.do(0, 1)
        store.meet(0)
        self.assertEqual(repr_of(told), before)

    def test_any_value(self):
        for value in no_numbers() + [7]:
            self.assertIs(raised(self, NoState, Store, WEEK, LINE, value)["state"], value)
        store = Store(WEEK, LINE, 0)
        store.do(1, 1)
        store.read(1)
        before = repr_of(store)
        for value in no_numbers() + [3]:
            self.assertIs(raised(self, NoHouse, store.do, value, value)["house"], value)
            self.assertIs(raised(self, NoDeed, store.do, 1, value)["deed"], value)
            self.assertIs(raised(self, NoTie, store.meet, value)["tie"], value)
            self.assertIs(raised(self, NoHouse, store.read, value)["house"], value)
            self.assertEqual(repr_of(store), before)

    def test_nothing_but_the_net_where_there_are_no_walks(self):
        rolls = random.Random(4)
        for machine in (WEEK, MIXED):
            for web in WEBS:
                store, net = Store(machine, web, 1), Net(machine, web, 1)
                for pace in some_paces(web, machine, 30, rolls, 0):
                    if pace[0] != "read":
                        self.assertEqual(self.do_quietly(store, pace), NetTaker(net).take(pace))
                self.assertEqual((store.states, store.archives, store.steps), (net.states, net.archives, net.steps))


class NetTaker:
    def __init__(self, net):
        self.net = net

    def take(self, pace):
        try:
            return self.net.do(*pace[1:]) if pace[0] == "do" else self.net.meet(pace[1])
        except Untold as error:
            return type(error).__name__
