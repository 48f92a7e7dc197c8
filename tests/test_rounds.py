"""[1], [2], [3], [49], [50], [51]: gone ways, rounds of an order, and how counts grow behind them."""

import random
import unittest

from houseslessties.books import counts_after
from houseslessties.errors import BadSteps, NoHouse, Refused, TooGreat
from houseslessties.rounds import check_meetings, gone_ways, heard_rounds, pace_of, round_counts, way_counts
from houseslessties.webs import Web
from tests.cases import (
    FIVE, LINE, MOST_WEB, THREE, TWICE, is_tupled, joined_to, no_numbers, raised, repr_of, some_webs,
)

WEBS = some_webs(40, 21) + [THREE, TWICE, FIVE, LINE, Web(1, []), Web(2, [(1, 0)]), Web(3, [(0, 1), (0, 1), (2, 1)])]
RING = Web(12, [(house, (house + 1) % 12) for house in range(12)])


def some_meetings(web, many, rolls):
    return [rolls.randrange(len(web.ties)) for _ in range(many)] if web.ties else []


def by_hand(web, house, meetings, modulus=0):
    """(by house, by tie) the counts behind meetings, met one by one."""
    houses, ties = [int(one == house) for one in range(web.houses)], [0] * len(web.ties)
    for tie in meetings:
        one, other = web.ties[tie]
        houses[one] = houses[other] = ties[tie] = houses[one] + houses[other] - ties[tie]
    if modulus:
        return tuple(count % modulus for count in houses), tuple(count % modulus for count in ties)
    return tuple(houses), tuple(ties)


def all_ways(web, house, meetings):
    """(way, house to which it leads) for each gone way, each walked step by step."""
    found = []
    open_ways = [((), house, 0)]
    while open_ways:
        way, here, at = open_ways.pop()
        found.append((way, here))
        for tie, pair in enumerate(web.ties):
            # A way is gone if it is gone as early as can be.
            if here in pair and way[-1:] != (tie,) and tie in meetings[at:]:
                open_ways.append((way + (tie,), sum(pair) - here, meetings.index(tie, at) + 1))
    return found


def runs(seed, many):
    rolls = random.Random(seed)
    for web in WEBS:
        for length in (0, 1, 3, many // 2, many):
            yield web, rolls.randrange(web.houses), some_meetings(web, length, rolls)


class MeetingsTest(unittest.TestCase):
    def test_as_a_tuple(self):
        for value in ([], (), [2, 0, 0, 1], (1,)):
            self.assertEqual(repr_of(check_meetings(web=THREE, value=value)), repr_of(tuple(value)))

    def test_how_many(self):
        self.assertEqual(len(check_meetings(MOST_WEB, [19] * 10000)), 10000)
        self.assertEqual(raised(self, BadSteps, check_meetings, MOST_WEB, [19] * 10001), {"at": -1})
        self.assertEqual(raised(self, BadSteps, check_meetings, MOST_WEB, [None] * 10001), {"at": -1})
        self.assertEqual(raised(self, BadSteps, check_meetings, Web(2, []), [0]), {"at": 0})
        self.assertEqual(len(way_counts(RING, 0, list(range(12)) * 800)[0]), 12)

    def test_any_value(self):
        for value in no_numbers() + [12, [12], (11, 12), [11, 0, -1, 3]]:
            for function, *args in ((check_meetings, RING), (way_counts, RING, 0), (heard_rounds, RING, 0), (pace_of, RING, 0)):
                wrong = self.fault(value)
                if wrong is not None:
                    self.assertEqual(raised(self, BadSteps, function, *args, value), {"at": wrong})
                self.assertEqual(raised(self, BadSteps, function, *args, [11, 3, value, None]), {"at": 2})

    def fault(self, value):
        """Where a value is no meetings of the ring of twelve ties."""
        if not isinstance(value, (list, tuple)):
            return -1
        return next((at for at, tie in enumerate(value) if type(tie) is not int or not 0 <= tie < 12), None)

    def test_which_error_comes_first(self):
        for value in no_numbers() + [3]:
            self.assertIs(raised(self, NoHouse, way_counts, THREE, value, value)["house"], value)
            self.assertIs(raised(self, NoHouse, gone_ways, THREE, value, "there", value, most=1)["house"], value)
            self.assertIs(raised(self, NoHouse, gone_ways, THREE, 0, value, value, most=1)["house"], value)
            self.assertIs(raised(self, NoHouse, round_counts, THREE, value, value, value, modulus=value)["house"], value)
            self.assertIs(raised(self, NoHouse, heard_rounds, THREE, value, value)["house"], value)
            self.assertIs(raised(self, NoHouse, pace_of, THREE, value, value)["house"], value)
        self.assertEqual(raised(self, BadSteps, gone_ways, THREE, 0, 1, [0, 3], most=1), {"at": 1})
        self.assertEqual(raised(self, BadSteps, round_counts, THREE, 0, [0, 3], None, modulus=None), {"at": 1})


class WaysTest(unittest.TestCase):
    def test_counts_meeting_by_meeting(self):
        for web, house, meetings in runs(1, 30):
            told = way_counts(web=web, house=house, meetings=meetings)
            self.assertEqual(repr_of(told), repr_of(by_hand(web, house, meetings)))
            steps = [("do", house, 0)] + [("meet", tie) for tie in meetings]
            self.assertEqual(told, tuple(tuple(row[0] for row in rows) for rows in counts_after(web, steps)))
            self.assertEqual(sum(told[0]), sum(told[1]) + 1)

    def test_counts_are_ways(self):
        for web, house, meetings in runs(2, 12):
            ways = all_ways(web, house, meetings)
            self.assertEqual(len(ways), len(set(ways)))
            houses, ties = way_counts(web, house, meetings)
            self.assertEqual(houses, tuple(sum(end == one for _, end in ways) for one in range(web.houses)))
            self.assertEqual(ties, tuple(sum(way[-1:] == (tie,) for way, _ in ways) for tie in range(len(web.ties))))

    def test_ways(self):
        for web, house, meetings in runs(3, 14):
            ways = all_ways(web, house, meetings)
            for there in range(web.houses):
                told = gone_ways(web=web, house=house, there=there, meetings=tuple(meetings), most=len(ways))
                self.assertEqual(repr_of(told), repr_of(tuple(sorted(way for way, end in ways if end == there))))
                self.assertEqual(gone_ways(web, house, there, meetings, most=len(ways) + 7), told)
                if len(ways) > 1:
                    error = raised(self, TooGreat, gone_ways, web, house, there, meetings, most=len(ways) - 1)
                    self.assertEqual(error, {"most": len(ways) - 1})

    def test_ways_go_on_over_other_ties_of_the_same_pair(self):
        self.assertEqual(gone_ways(TWICE, 0, 0, (0, 1, 0, 1), most=99), ((), (0, 1), (0, 1, 0, 1), (1, 0)))
        self.assertEqual(gone_ways(LINE, 0, 2, (1, 0, 1, 1), most=3), ((0, 1),))
        self.assertEqual(gone_ways(LINE, 0, 2, (1, 0), most=2), ())

    def test_the_greatest(self):
        pair = [at % 2 for at in range(400)]
        self.assertEqual(len(gone_ways(TWICE, 0, 1, pair, most=5000)), way_counts(TWICE, 0, pair)[0][1])
        meetings = [0, 1, 2, 0, 3, 4, 5, 19, 18, 17, 0, 1, 2, 3, 4, 5, 6, 7, 8, 9, 10, 11, 12, 13, 14, 15, 16] * 20
        many = 1
        while sum(way_counts(MOST_WEB, 0, meetings[:many + 1])[0]) <= 5000:
            many += 1
        told = [gone_ways(MOST_WEB, 0, there, meetings[:many], most=5000) for there in range(12)]
        self.assertEqual(tuple(map(len, told)), way_counts(MOST_WEB, 0, meetings[:many])[0])
        raised(self, TooGreat, gone_ways, MOST_WEB, 0, 0, meetings[:400], most=20000)
        self.assertEqual(way_counts(MOST_WEB, 0, meetings[:400]), by_hand(MOST_WEB, 0, meetings[:400]))

    def test_only_by_name(self):
        with self.assertRaises(TypeError):
            gone_ways(LINE, 0, 2, (0, 1), 9)


class RoundsTest(unittest.TestCase):
    def test_few_rounds(self):
        for web, house, order in runs(4, 10):
            for rounds in (0, 1, 2, 5, 13):
                told = round_counts(web=web, house=house, order=order, rounds=rounds)
                self.assertEqual(repr_of(told), repr_of(by_hand(web, house, order * rounds)))
                self.assertEqual(told, round_counts(web, house, order, rounds, modulus=0))
                for modulus in (1, 2, 7, 10 ** 6):
                    told = round_counts(web, house, tuple(order), rounds, modulus=modulus)
                    self.assertEqual(repr_of(told), repr_of(by_hand(web, house, order * rounds, modulus)))

    def test_four_hundred_rounds_and_one_more(self):
        for web, order in ((THREE, [0, 1, 2]), (TWICE, [0, 1]), (MOST_WEB, list(range(20)) * 2), (LINE, [])):
            for rounds in (400, 401):
                for modulus in (1, 999983):
                    told = round_counts(web, 1, order, rounds, modulus=modulus)
                    self.assertEqual(told, by_hand(web, 1, order * rounds, modulus))
            self.assertEqual(round_counts(web, 1, order, 400), by_hand(web, 1, order * 400))
            for rounds in (401, 10 ** 18):
                self.assertEqual(raised(self, TooGreat, round_counts, web, 1, order, rounds), {"most": 400})
                self.assertEqual(raised(self, TooGreat, round_counts, web, 1, order, rounds, modulus=0), {"most": 400})

    def test_very_many_rounds(self):
        # With one ring alone the counts keep a pace, so that they are told behind any number of rounds.
        rolls = random.Random(5)
        for houses in (2, 3, 5, 9, 10):
            ring = Web(houses, [(house, (house + 1) % houses) for house in range(houses)])
            order = rolls.sample(range(houses), houses)
            index, period, gains = pace_of(ring, 0, order)
            for rounds in (10 ** 18, 10 ** 18 - 1, 123456789012):
                for modulus in (1, 10, 999999, 10 ** 6):
                    times = (rounds - index) // period
                    start = by_hand(ring, 0, order * (rounds - times * period))[0]
                    told = tuple((count + times * gain) % modulus for count, gain in zip(start, gains))
                    self.assertEqual(round_counts(ring, 0, order, rounds, modulus=modulus)[0], told)

    def test_very_many_rounds_of_houses_and_ties_to_twenty(self):
        rolls = random.Random(6)
        web = Web(8, [rolls.sample(range(8), 2) for _ in range(12)])
        order = some_meetings(web, 40, rolls)
        told = [round_counts(web, 3, order, 10 ** 18 + at, modulus=10 ** 6) for at in (-1, 0)]
        # Behind a round more stands what the order's meetings make of what stood ahead of it.
        houses, ties = map(list, told[0])
        for tie in order:
            one, other = web.ties[tie]
            houses[one] = houses[other] = ties[tie] = (houses[one] + houses[other] - ties[tie]) % 10 ** 6
        self.assertEqual(told[1], (tuple(houses), tuple(ties)))

    def test_what_is_refused(self):
        for value in no_numbers() + [10 ** 18 + 1]:
            if type(value) is int and 0 <= value <= 10 ** 18:
                continue
            self.assertIs(raised(self, Refused, round_counts, THREE, 0, [0], value, modulus="modulus")["at"], value)
            self.assertIs(raised(self, Refused, round_counts, THREE, 0, [0], value, modulus=7)["at"], value)
        for value in no_numbers() + [10 ** 6 + 1]:
            if type(value) is int and 0 <= value <= 10 ** 6:
                continue
            self.assertIs(raised(self, Refused, round_counts, THREE, 0, [0], 401, modulus=value)["at"], value)
        with self.assertRaises(TypeError):
            round_counts(THREE, 0, [0], 4, 7)

    def test_first_hearings(self):
        for web, house, order in runs(7, 10):
            told = heard_rounds(web=web, house=house, order=order)
            for one, rounds in enumerate(told):
                if rounds is None:
                    self.assertEqual(by_hand(web, house, order * 12)[0][one], 0)
                else:
                    self.assertGreater(by_hand(web, house, order * rounds)[0][one], 0)
                    if rounds > 0:
                        self.assertEqual(by_hand(web, house, order * (rounds - 1))[0][one], 0)
            self.assertEqual((repr_of(told[house]), is_tupled(told)), (repr_of(0), True))
        line = Web(12, [(house, house + 1) for house in range(11)])
        self.assertEqual(heard_rounds(line, 11, list(range(11))), tuple(range(11, -1, -1)))
        self.assertEqual(heard_rounds(line, 0, list(range(11)) * 900), (0,) + (1,) * 11)
        self.assertEqual(heard_rounds(FIVE, 0, ()), (0, None, None, None, None))


class PaceTest(unittest.TestCase):
    def lines(self, web, house, order, rounds):
        """By number of rounds the counts of all houses and ties."""
        houses, ties = by_hand(web, house, [])
        found, counts = [], list(houses + ties)
        for _ in range(rounds):
            found.append(tuple(counts))
            for tie in order:
                one, other = web.ties[tie]
                at = web.houses + tie
                counts[one] = counts[other] = counts[at] = counts[one] + counts[other] - counts[at]
        return found

    def least(self, lines, period):
        """The least index from which so many rounds more always add the same; None if none do."""
        gains = [tuple(b - a for a, b in zip(lines[at], lines[at + period])) for at in range(len(lines) - period)]
        index = len(gains) - 1
        while index > 0 and gains[index - 1] == gains[-1]:
            index -= 1
        # What is alike at the end alone shows nothing: the lines are long enough for many periods.
        return index if index < len(gains) // 2 else None

    def check(self, web, house, order):
        met = [web.ties[tie] for tie in sorted(set(order))]
        part = joined_to(Web(web.houses, met), house)
        rings = sum(pair[0] in part for pair in met) - len(part) + 1
        pace = pace_of(web=web, house=house, order=order)
        if rings > 1:
            self.assertIsNone(pace)
            return None
        index, period, gains = pace
        lines = self.lines(web, house, order, 2 * (index + period) + 60)
        self.assertEqual(repr_of(self.least(lines, period)), repr_of(index))
        for less in range(1, period):
            self.assertIsNone(self.least(lines, less))
        self.assertEqual(gains, tuple(b - a for a, b in zip(lines[index], lines[index + period]))[:web.houses])
        self.assertTrue(is_tupled(pace))
        if rings == 0:
            self.assertEqual((period, set(gains)), (1, {0}))
        return period

    def test_against_rounds_met_one_by_one(self):
        periods = set()
        for seed in (8, 9, 10):
            for web, house, order in runs(seed, 16):
                periods.add(self.check(web, house, order))
        self.assertTrue({None, 1, 2} <= periods, periods)

    def test_rings_of_all_lengths(self):
        rolls = random.Random(11)
        periods = set()
        for houses in range(2, 13):
            for _ in range(12):
                ring = Web(12, [(house, (house + 1) % houses) for house in range(houses)]
                           + [(house - 1, house) for house in range(houses, 12)])
                order = rolls.sample(range(len(ring.ties)), len(ring.ties)) + some_meetings(ring, rolls.randrange(20), rolls)
                periods.add(self.check(ring, rolls.randrange(12), order))
        self.assertTrue({1, 2, 3, 6, 15, 20} <= periods, periods)

    def test_where_the_house_is(self):
        two = Web(7, [(0, 1), (0, 1), (2, 3), (2, 3), (2, 3), (3, 4), (5, 6)])
        order = list(range(7)) * 2
        self.assertEqual(self.check(two, 0, order), 1)
        for house in (2, 3, 4):
            self.assertIsNone(pace_of(two, house, order))
        self.assertEqual(pace_of(two, 6, order)[1:], (1, (0,) * 7))
        # Ties that are in no meeting make no ring, and a tie that comes twice makes none either.
        self.assertEqual(self.check(two, 2, [2, 2, 3, 5, 2]), 1)
        self.assertEqual(pace_of(two, 2, [2, 2, 5]), (1, 1, (0,) * 7))
        self.assertEqual(pace_of(two, 4, ()), (0, 1, (0,) * 7))
        self.assertEqual(pace_of(two, 4, [6, 0, 1]), (0, 1, (0,) * 7))

    def test_with_more_rings_counts_outgrow_all_lines(self):
        three = Web(2, [(0, 1)] * 3)
        self.assertIsNone(pace_of(three, 0, (0, 1, 2)))
        self.assertGreater(by_hand(three, 0, [0, 1, 2] * 100)[0][0], 2 ** 100)
