"""[1], [2], [3], [17], [18], [19], [20]: travellers and their marks."""

import itertools
import unittest

from houseslessties.errors import NoDeed, NoState, Refused, TooGreat
from houseslessties.joins import is_telling
from houseslessties.machines import Machine
from houseslessties.rows import commuting_paper
from houseslessties.travellers import (
    Traveller, all_marks, brought_behind, come_home, enough_home, home_states, marks_paper, needed_marks,
)
from tests.cases import (
    CLOCK, RING, STEPS, SWAP, TURN, WORN, all_rows, any_values, done, is_tupled, machines_of, no_numbers, raised, reached,
    repr_of, some_machines,
)

SOME = machines_of(2, 2) + machines_of(3, 1) + machines_of(3, 2)[::31] + some_machines(25)
# All that rows do with six states and, apart from them, with two.
TURNINGS = Machine([(1, 2, 3, 4, 5, 0, 6, 7), (1, 0, 2, 3, 4, 5, 6, 7), (0, 1, 2, 3, 4, 5, 7, 6)])
GREAT = Machine([(1, 2, 3, 4, 5, 6, 7, 0), (1, 0, 2, 3, 4, 5, 6, 7), (0, 0, 2, 3, 4, 5, 6, 7), (7, 6, 5, 4, 3, 2, 1, 0)])
SEARCHES = (
    (all_marks, ()), (needed_marks, (0,)), (marks_paper, ()), (enough_home, ()), (Traveller, ()),
    (come_home, (0, (0, 0))), (brought_behind, ((0, 0), (0, 0))),
)


def homes_of(machine, archive, home):
    """Where rows of at most so many deeds lead the archive, by a look at each layer."""
    found = {archive}
    for _ in range(machine.states if home is None else min(home, machine.states)):
        found |= {table[state] for state in found for table in machine.tables}
    return tuple(sorted(found))


def things_of(machine, homes, out):
    """Where rows of at most so many deeds lead each home state."""
    if out is None:
        return reached(machine, *homes)
    found = {homes}
    for _ in range(out):
        found |= {tuple(table[state] for state in ends) for ends in found for table in machine.tables}
    return found


def marks_of(machine, archive, home, out):
    """By state the number of unlike things that rows do which lead the archive there."""
    homes = homes_of(machine, archive, home)
    ends = [thing[homes.index(archive)] for thing in things_of(machine, homes, out)]
    return tuple(ends.count(state) for state in range(machine.states))


LIMITS = ((None, None), (0, None), (1, None), (2, None), (None, 0), (None, 1), (None, 3), (1, 2), (0, 0), (2, 4))


class HomeTest(unittest.TestCase):
    def test_states(self):
        for machine in SOME:
            for archive in range(machine.states):
                for home in (None, 0, 1, 2, 3, 10 ** 6):
                    told = home_states(machine, archive, home=home)
                    self.assertEqual(repr_of(told), repr_of(homes_of(machine, archive, home)))
                self.assertEqual(home_states(machine, archive), homes_of(machine, archive, None))

    def test_states_by_rows(self):
        for machine in SOME[:40]:
            for home in range(4):
                ends = {done(machine, 0, row) for row in all_rows(machine.deeds, home)}
                self.assertEqual(home_states(machine, 0, home=home), tuple(sorted(ends)))

    def test_how_many_deeds(self):
        line = Machine([(1, 2, 3, 3, 0)])
        self.assertEqual(home_states(line, 0, home=0), (0,))
        self.assertEqual(home_states(line, 1, home=1), (1, 2))
        self.assertEqual(home_states(machine=line, archive=0, home=10 ** 5000), (0, 1, 2, 3))
        self.assertEqual(home_states(line, 4), (0, 1, 2, 3, 4))

    def test_any_value(self):
        for value in any_values() + [[], (), [0]]:
            self.assertIs(raised(self, NoState, home_states, RING, value, home=value)["state"], value)
            if value is not None and not (type(value) is int and value >= 0):
                self.assertIs(raised(self, Refused, home_states, RING, 0, home=value)["at"], value)
        self.assertIs(raised(self, NoState, home_states, RING, 4)["state"], 4)


class MarksTest(unittest.TestCase):
    def test_marks_by_state(self):
        for machine in SOME:
            for archive in range(machine.states):
                for home, out in LIMITS:
                    marks = marks_of(machine, archive, home, out)
                    self.assertEqual(repr_of(all_marks(machine, archive, home=home, out=out)), repr_of(marks))
                    for state in range(machine.states):
                        told = needed_marks(machine, archive, state, home=home, out=out)
                        self.assertEqual(told, marks[state])

    def test_marks_by_all_rows(self):
        for machine in SOME[:60:3]:
            for home, out in itertools.product(range(3), range(5)):
                starts = [done(machine, 0, row) for row in all_rows(machine.deeds, home)]
                things = {}
                for row in all_rows(machine.deeds, out):
                    ends = tuple(done(machine, start, row) for start in starts)
                    things.setdefault(done(machine, 0, row), set()).add(ends)
                told = all_marks(machine, 0, home=home, out=out)
                self.assertEqual(told, tuple(len(things.get(state, ())) for state in range(machine.states)))

    def test_states_to_which_no_row_leads(self):
        self.assertEqual(all_marks(WORN, 2), (0, 0, 1, 0))
        self.assertEqual(needed_marks(WORN, 2, 3), 0)
        self.assertEqual(all_marks(RING, 0, out=1), (1, 1, 1, 0))
        self.assertEqual(all_marks(RING, 2, out=0), (0, 0, 1, 0))

    def test_small_and_great_numbers_of_deeds(self):
        self.assertEqual(all_marks(SWAP, 0, home=0), (1, 1, 1))
        self.assertEqual(all_marks(SWAP, 0, home=0, out=0), (1, 0, 0))
        self.assertEqual(all_marks(SWAP, 0, out=2), (2, 2, 1))
        self.assertEqual(all_marks(SWAP, 0, home=10 ** 6, out=10 ** 6), (2, 2, 2))
        self.assertEqual(all_marks(SWAP, 0, home=10 ** 900, out=10 ** 900), (2, 2, 2))
        self.assertEqual(needed_marks(machine=SWAP, archive=0, state=2, home=1, out=None, most=6), 2)
        self.assertEqual(all_marks(machine=SWAP, archive=0, home=None, out=None, most=6), (2, 2, 2))

    def test_one_mark_where_joins_are_told(self):
        kinds = {True: 0, False: 0}
        for machine in SOME:
            for archive in range(machine.states):
                told = self.is_told_from(machine, archive)
                kinds[told] += 1
                self.assertIs(max(all_marks(machine, archive)) <= 1, told)
                if is_telling(machine, archive):
                    self.assertEqual(max(all_marks(machine, archive)), 1)
        self.assertGreater(min(kinds.values()), 30)
        self.assertEqual(all_marks(CLOCK, 0), (1,) * 12)

    def is_told_from(self, machine, archive):
        """Whether joins with this archive, and states of its orbit, are told."""
        return all(
            len({end for at, end in reached(machine, archive, here) if at == there}) == 1
            for here, in reached(machine, archive) for there, in reached(machine, archive)
        )

    def test_they_never_get_fewer(self):
        for machine in SOME[::3]:
            table = {(home, out): all_marks(machine, 0, home=home, out=out) for home in range(4) for out in range(5)}
            for (home, out), marks in table.items():
                for more in ((home + 1, out), (home, out + 1)):
                    if more in table:
                        self.assertTrue(all(one <= other for one, other in zip(marks, table[more])))

    def test_any_value(self):
        for value in any_values() + [[], (), [0]]:
            self.assertIs(raised(self, NoState, all_marks, SWAP, value, home=value, out=value, most=1)["state"], value)
            self.assertIs(raised(self, NoState, needed_marks, SWAP, value, None, home=value, most=1)["state"], value)
            self.assertIs(raised(self, NoState, needed_marks, SWAP, 0, value, home=True, out=True)["state"], value)
            self.assertIs(raised(self, NoState, marks_paper, SWAP, value, home=value, out=value, most=1)["state"], value)
            if value is None or type(value) is int and value >= 0:
                continue
            for function, more in ((all_marks, ()), (needed_marks, (2,)), (marks_paper, ())):
                self.assertIs(raised(self, Refused, function, SWAP, 0, *more, home=value, out=[])["at"], value)
                self.assertIs(raised(self, Refused, function, SWAP, 0, *more, home=0, out=value)["at"], value)
        for function, more in ((all_marks, ()), (needed_marks, (2,)), (marks_paper, ())):
            for home, out, wrong in ((-1, True, -1), (True, None, True), (False, None, False), (None, -1, -1), (0, True, True)):
                self.assertIs(raised(self, Refused, function, SWAP, 0, *more, home=home, out=out)["at"], wrong)


class PaperTest(unittest.TestCase):
    def test_papers(self):
        kinds = {True: 0, False: 0}
        for machine in SOME:
            for archive in range(machine.states):
                for home, out in LIMITS:
                    told = marks_paper(machine, archive, home=home, out=out)
                    needed = max(marks_of(machine, archive, home, out))
                    self.assertIs(told is None, needed < 2)
                    kinds[told is None] += 1
                    if told is not None:
                        self.check(machine, archive, home, out, told)
        self.assertGreater(min(kinds.values()), 100)

    def check(self, machine, archive, home, out, told):
        word, ahead, one, other = told
        self.assertTrue(is_tupled(told))
        self.assertEqual(word, "rows")
        self.assertTrue(home is None or len(ahead) <= home)
        self.assertTrue(out is None or max(len(one), len(other)) <= out)
        self.assertEqual(done(machine, archive, one), done(machine, archive, other))
        self.assertNotEqual(done(machine, archive, ahead + one), done(machine, archive, ahead + other))

    def test_great_numbers(self):
        self.check(SWAP, 0, 10 ** 6, 10 ** 6, marks_paper(machine=SWAP, archive=0, home=10 ** 6, out=10 ** 6, most=6))
        self.assertIsNone(marks_paper(CLOCK, 3))
        self.check(TURNINGS, 0, 1, None, marks_paper(TURNINGS, 0, home=1))


class EnoughTest(unittest.TestCase):
    def test_it_is_the_least(self):
        told = {}
        for machine in SOME + [TURNINGS]:
            for archive in range(machine.states):
                whole = sum(marks_of(machine, archive, None, None))
                sums = [sum(marks_of(machine, archive, home, None)) for home in range(machine.states + 1)]
                enough = enough_home(machine, archive)
                self.assertEqual(enough, sums.index(whole))
                self.assertIs(type(enough), int)
                told[enough] = True
        self.assertLess({0, 1, 2, 3}, set(told))
        self.assertEqual(enough_home(machine=TURNINGS, archive=0, most=5000), 4)

    def test_any_value(self):
        for value in no_numbers() + [3]:
            self.assertIs(raised(self, NoState, enough_home, SWAP, value)["state"], value)


class AtWorkTest(unittest.TestCase):
    def marks_by_rows(self, machine, archive):
        """By row (state, mark), numbered as the rows come, by fewest deeds, then by the least."""
        homes = homes_of(machine, archive, None)
        marks, given, found = {}, {}, {}
        for row in all_rows(machine.deeds, 6):
            thing = tuple(done(machine, home, row) for home in homes)
            if thing not in marks:
                state = done(machine, archive, row)
                marks[thing] = (state, given.get(state, 0))
                given[state] = given.get(state, 0) + 1
            found[row] = marks[thing]
        return found

    def test_a_traveller_deed_by_deed(self):
        for machine in SOME[::4] + [SWAP, TURN]:
            for archive in range(machine.states):
                found = self.marks_by_rows(machine, archive)
                for row in [row for row in found if len(row) == 6]:
                    traveller = Traveller(machine, archive)
                    self.assertEqual(traveller.brought(), (archive, 0))
                    for many, deed in enumerate(row, 1):
                        self.assertEqual(repr_of(traveller.do(deed)), repr_of(found[row[:many]]))
                        self.assertEqual(traveller.brought(), found[row[:many]])

    def test_the_marks_are_as_many_as_are_needed(self):
        for machine in SOME[::3] + [TURNINGS]:
            seen = {}
            for mark in self.marks_by_rows(machine, 0).values():
                seen.setdefault(mark[0], set()).add(mark[1])
            for state, marks in seen.items():
                self.assertEqual(marks, set(range(len(marks))))
                self.assertLessEqual(len(marks), needed_marks(machine, 0, state))

    def test_attributes(self):
        traveller = Traveller(machine=SWAP, archive=1, most=10)
        self.assertIs(traveller.machine, SWAP)
        self.assertEqual(traveller.archive, 1)
        self.assertEqual(traveller.brought(), (1, 0))
        self.assertEqual(traveller.do(deed=0), (0, 0))
        self.assertEqual((traveller.machine, traveller.archive), (SWAP, 1))

    def test_a_call_that_raises_changes_nothing(self):
        traveller = Traveller(SWAP, 0)
        traveller.do(1)
        before = repr_of(traveller)
        for value in no_numbers() + [2]:
            self.assertIs(raised(self, NoDeed, traveller.do, value)["deed"], value)
            self.assertEqual(repr_of(traveller), before)
        self.assertEqual(traveller.brought(), (0, 1))
        self.assertEqual(traveller.do(0), (1, 1))

    def test_two_travellers_do_not_touch_each_other(self):
        one, other = Traveller(SWAP, 0), Traveller(SWAP, 0)
        one.do(0)
        self.assertEqual((one.brought(), other.brought()), ((1, 0), (0, 0)))

    def test_coming_home(self):
        for machine in SOME[::4] + [SWAP, TURN, STEPS]:
            for archive in range(machine.states):
                found = self.marks_by_rows(machine, archive)
                for ahead in all_rows(machine.deeds, 2):
                    here = done(machine, archive, ahead)
                    for row in [row for row in found if len(row) <= 3]:
                        told = come_home(machine, archive, here, found[row])
                        self.assertEqual(told, done(machine, here, row))
                        self.assertEqual(told, come_home(machine, archive, here, list(found[row])))

    def test_coming_home_with_each_mark(self):
        for machine in SOME + [SWAP, TURN, STEPS]:
            counts = all_marks(machine, 0)
            for here in homes_of(machine, 0, None):
                for state, many in enumerate(counts):
                    for mark in range(many):
                        self.assertIn(come_home(machine, 0, here, (state, mark)), range(machine.states))
                        self.assertEqual(come_home(machine, 0, 0, (state, mark)), state)
                    wrong = (state, many)
                    self.assertIs(raised(self, Refused, come_home, machine, 0, here, wrong)["at"], wrong)

    def test_coming_home_with_the_last_of_many_marks(self):
        for state in range(6):
            self.assertIn(come_home(TURNINGS, 0, 5, (state, 119)), range(6))
            self.assertEqual(raised(self, Refused, come_home, TURNINGS, 0, 5, (state, 120)), {"at": (state, 120)})

    def test_put_together_on_the_way(self):
        for machine in SOME[::6] + [SWAP, TURN]:
            found = self.marks_by_rows(machine, 0)
            rows = [row for row in found if len(row) <= 2]
            for one, other in itertools.product(rows, repeat=2):
                both = brought_behind(machine, 0, found[one], list(found[other]))
                self.assertEqual(repr_of(both), repr_of(found[one + other]))
            for one, other, third in itertools.product(rows[-4:], repeat=3):
                ahead = brought_behind(machine, 0, brought_behind(machine, 0, found[one], found[other]), found[third])
                behind = brought_behind(machine, 0, found[one], brought_behind(machine, 0, found[other], found[third]))
                self.assertEqual(ahead, behind)
                self.assertEqual(ahead, found[one + other + third])
                here = come_home(machine, 0, 0, found[one])
                here = come_home(machine, 0, come_home(machine, 0, here, found[other]), found[third])
                self.assertEqual(here, come_home(machine, 0, 0, ahead))

    def test_names(self):
        self.assertEqual(come_home(machine=SWAP, archive=0, here=2, brought=(1, 1), most=6), 0)
        self.assertEqual(brought_behind(machine=SWAP, archive=0, one=[1, 1], other=(0, 1), most=6), (2, 1))

    def test_what_is_no_home_state(self):
        for value in no_numbers() + [4]:
            self.assertIs(raised(self, NoState, come_home, WORN, value, value, value)["state"], value)
            self.assertIs(raised(self, NoState, come_home, WORN, 0, value, None)["state"], value)
            self.assertIs(raised(self, NoState, brought_behind, WORN, value, value, value)["state"], value)
            self.assertIs(raised(self, NoState, Traveller, WORN, value)["state"], value)
        self.assertEqual(raised(self, Refused, come_home, WORN, 0, 3, None), {"at": 3})
        self.assertEqual(raised(self, Refused, come_home, WORN, 2, 1, (2, 0)), {"at": 1})

    def test_what_nobody_can_have_brought(self):
        wrong = any_values() + [
            (), (0,), [1], (0, 0, 0), (0, 0, []), [0, 0, [0]], (0, 2), (2, 2), (3, 0), (0, -1), (True, 0), (0, True), (0, False), (False, 0),
            ("0", 0), (0, "0"), (None, 0), (0, None), ([0], 0), (0, [0]), (0, 10 ** 900), "00",
        ]
        for value in wrong:
            # (0, 0) and the like are left out: they are brought.
            self.assertIs(raised(self, Refused, come_home, SWAP, 0, 1, value)["at"], value)
            self.assertIs(raised(self, Refused, brought_behind, SWAP, 0, value, None)["at"], value)
            self.assertIs(raised(self, Refused, brought_behind, SWAP, 0, (0, 1), value)["at"], value)
        self.assertEqual(raised(self, Refused, come_home, WORN, 2, 2, (0, 0)), {"at": (0, 0)})


class TooGreatTest(unittest.TestCase):
    def test_just_as_many_things_are_enough(self):
        for machine in SOME[::5] + [SWAP, TURN, TURNINGS]:
            many = sum(marks_of(machine, 0, None, None))
            for function, more in SEARCHES:
                function(machine, 0, *more, most=many)
                if many > 1:
                    self.assertEqual(raised(self, TooGreat, function, machine, 0, *more, most=many - 1), {"most": many - 1})

    def test_only_what_rows_of_so_many_deeds_do_is_searched(self):
        many = sum(marks_of(GREAT, 0, 2, 3))
        for function, more in SEARCHES[:3]:
            function(GREAT, 0, *more, home=2, out=3, most=many)
            told = raised(self, TooGreat, function, GREAT, 0, *more, home=2, out=3, most=many - 1)
            self.assertEqual(told, {"most": many - 1})

    def test_the_default(self):
        for function, more in SEARCHES:
            self.assertEqual(raised(self, TooGreat, function, GREAT, 0, *more), {"most": 5000})

    def test_ahead_of_other_errors_but_of_the_archive(self):
        for function, more in SEARCHES[3:]:
            wrong = (None,) * len(more)
            self.assertEqual(raised(self, TooGreat, function, GREAT, 0, *wrong), {"most": 5000})
            self.assertEqual(raised(self, NoState, function, GREAT, 8, *wrong), {"state": 8})

    def test_the_greatest_machines(self):
        self.assertEqual(sum(all_marks(GREAT, 0, home=10 ** 6, out=6)), len(things_of(GREAT, tuple(range(8)), 6)))
        self.assertEqual(all_marks(TURNINGS, 0), (120,) * 6 + (0, 0))
        chain = Machine([[min(state + 1, 7) for state in range(8)], [max(state - 1, 0) for state in range(8)],
                         [7 - state for state in range(8)], list(range(8))])
        self.assertEqual(sum(all_marks(chain, 3)), len(reached(chain, *range(8))))
        self.assertIsNotNone(commuting_paper(chain, 0))
