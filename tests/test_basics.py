"""[1], [2], [3]: what is promised of each function alike."""

import copy
import inspect
import unittest

from houseslessties.accidents import house_back, lacking, meeting_broken, tie_lost, tie_opened
from houseslessties.audits import audit_holds, audit_paper, audit_state
from houseslessties.books import (
    act_deeds, counts_after, first_twice, harmless_period, heard_after, led_counts, led_times, plain_state, run_harm,
    safe_ties, twice_run, wrong_run,
)
from houseslessties.breaks import Twin, doubled_deed, silent_break, silent_holds
from houseslessties.cells import CellNet, Loads, cell_book, cell_web, kept_sums, lots_of, sum_paper, tearing_tie
from houseslessties.counters import CounterNet
from houseslessties.desk import Desk
from houseslessties.elders import elder_holds, elder_paper, elder_run, order_of, shown_rows, untold_run
from houseslessties.joins import is_telling, join, joined_all, telling_holds, telling_paper, untold_rows
from houseslessties.machines import Machine, check_row, led, need_deed, need_state, orbit
from houseslessties.nets import Net, check_steps, standing_after, truth_of
from houseslessties.orbits import group_paper, inverse_of, is_exchanging, orbit_table, turned_join
from houseslessties.rests import (
    are_right, best_turns, check_turns, fewest_rounds, is_rest, longest_way, rest_after, rest_values, sweep, turns_heard,
)
from houseslessties.rounds import check_meetings, gone_ways, heard_rounds, pace_of, round_counts, way_counts
from houseslessties.rows import commuting_paper, need_commuting, power_of
from houseslessties.store import Store
from houseslessties.texts import machine_text, read_machine, read_row, read_web, row_text, web_text
from houseslessties.travellers import (
    Traveller, all_marks, brought_behind, come_home, enough_home, home_states, marks_paper, needed_marks,
)
from houseslessties.walks import (
    careful_walk, check_walk, crossed_counts, crossings, cut_run, unread_acts, walked_counts, walked_standing,
    walked_state,
)
from houseslessties.webs import (
    Web, is_forest, need_house, need_tie, part_of, parts_of, ring_paper, rings_of,
)
from tests.cases import (
    CLOCK, MOST_MACHINE, MOST_MIXED, MOST_WEB as WEB, RING, STEPS, SWAP, THREE, TURN, WEEK, is_tupled, repr_of,
)

RUN = [["do", 0, 0], ["meet", 0], ["do", 2, 1], ["meet", 1], ["meet", 2]]
LONG = [["do", at % 12, at % 8] if at % 3 else ["meet", at % 20] for at in range(400)]
PAPER = ["untold", 0, 0, [], [1]]
FOOT = [["do", 0, 0], ["read", 0], ["do", 1, 1], ["meet", 0], ["do", 0, 1], ["read", 2], ["read", 1]]
LINE = Web(3, [[0, 1], [1, 2]])
TREE = Web(12, [(house // 2, house) for house in range(1, 12)])
RUNS = ["runs", [["do", 2, 0], ["meet", 2]], [["do", 2, 0], ["do", 0, 0]]]
COUNTERS = CounterNet(LINE, 0, [5, 0, -2], [1, -3])
LOADS = Loads(LINE, 3, [[0, 1], [1, 2]])
WINS = Machine([[1, 1, 2], [2, 1, 2]])
LATE = LONG[:388] + [["read", house] for house in range(12)]
CALLS = (
    (Machine, [[1, 0], [0, 0]]), (need_state, MOST_MACHINE, 11), (need_deed, MOST_MACHINE, 7),
    (check_row, MOST_MACHINE, [7] * 10000), (led, MOST_MACHINE, 11, [7, 1] * 200), (orbit, MOST_MIXED, 3),
    (commuting_paper, MOST_MIXED, 3), (commuting_paper, MOST_MACHINE, 3), (need_commuting, MOST_MACHINE, 3),
    (power_of, MOST_MIXED, 3, [7, 2] * 200),
    (Web, 3, [[0, 1], [2, 1]]), (need_house, WEB, 11), (need_tie, WEB, 19), (part_of, WEB, 11), (parts_of, WEB),
    (rings_of, WEB, list(range(12))), (is_forest, WEB), (ring_paper, WEB), (ring_paper, Web(3, [(0, 1), (1, 2)])),
    (machine_text, MOST_MIXED), (read_machine, machine_text(MOST_MIXED)), (row_text, MOST_MACHINE, [7, 1] * 200),
    (read_row, MOST_MACHINE, "7 1 0"), (read_row, MOST_MACHINE, "-"), (web_text, WEB), (read_web, web_text(WEB)),
    (join, RING, 3, 1, 2), (untold_rows, TURN, 0, 1, 3), (untold_rows, MOST_MIXED, 0, 3, 5), (untold_rows, RING, 3, 1, 2),
    (telling_paper, MOST_MIXED, 0), (telling_paper, MOST_MACHINE, 0), (is_telling, MOST_MIXED, 0),
    (telling_holds, STEPS, 0, PAPER), (telling_holds, MOST_MIXED, 0, PAPER), (joined_all, MOST_MACHINE, 0, [11, 7] * 200),
    (orbit_table, MOST_MACHINE, 0), (is_exchanging, MOST_MACHINE, 0), (group_paper, MOST_MACHINE, 0),
    (group_paper, RING, 2), (inverse_of, RING, 2, 3), (turned_join, RING, 0, 3, 1, 2),
    (home_states, SWAP, 0), (all_marks, SWAP, 0), (needed_marks, SWAP, 0, 2), (marks_paper, SWAP, 0),
    (enough_home, SWAP, 0), (Traveller, SWAP, 0), (come_home, SWAP, 0, 2, [1, 1]),
    (brought_behind, SWAP, 0, [1, 1], [0, 1]),
    (check_steps, WEEK, THREE, RUN), (check_steps, CLOCK, WEB, LONG), (Net, WEEK, THREE, 3),
    (standing_after, WEEK, THREE, 0, RUN), (standing_after, CLOCK, WEB, 3, LONG), (truth_of, CLOCK, WEB, 3, LONG, 7),
    (act_deeds, WEB, LONG), (counts_after, WEB, LONG), (heard_after, WEB, LONG), (led_times, CLOCK, 0, [7, 1], 10 ** 900),
    (led_counts, WEEK, 0, [0, 1], [10 ** 900, 3]), (plain_state, CLOCK, WEB, 3, LONG, 7), (first_twice, WEB, LONG),
    (first_twice, THREE, RUN[:2]), (safe_ties, WEB, LONG), (twice_run, WEB), (twice_run, Web(2, [(0, 1)])),
    (wrong_run, CLOCK, WEB, 3), (harmless_period, CLOCK, 3), (run_harm, WEB, LONG), (run_harm, THREE, RUN),
    (audit_paper, WEEK, THREE, 0, 0, [0, 2], [1]), (audit_paper, WEEK, THREE, 0, 0, None, [1]),
    (audit_paper, WEEK, THREE, 0, 0, [0, 1, 2], [0, 1, 2]), (audit_paper, MOST_MACHINE, WEB, 0, 0, None, None),
    (audit_holds, WEEK, THREE, 0, 0, [0, 1, 2], [0, 1], RUNS), (audit_holds, WEEK, THREE, 0, 0, None, None, RUNS),
    (audit_state, WEEK, THREE, 0, [5, 4, 5], [1, 4, 5], 1), (audit_state, WEEK, LINE, 0, [1, 0, 0], [0, 0], 1),
    (check_walk, LINE, FOOT), (check_walk, WEB, LATE), (crossings, LINE, FOOT), (unread_acts, LINE, FOOT),
    (walked_counts, LINE, FOOT), (walked_counts, WEB, LATE), (crossed_counts, LINE, FOOT), (careful_walk, LINE, FOOT),
    (cut_run, WEB, LATE), (walked_standing, CLOCK, WEB, 3, LATE), (walked_state, WEEK, LINE, 0, FOOT),
    (walked_state, CLOCK, WEB, 3, LATE),
    (CounterNet, LINE, 0, [10 ** 18, 0, -2], [1, -10 ** 18]), (CounterNet, LINE, 10 ** 6, [5, 0, 2], [1, 999999]),
    (is_rest, CounterNet(LINE, 0, [5, 0, 2], [1, -3])), (rest_values, 6, 3, 2), (rest_values, 0, 10 ** 900, 10 ** 900),
    (are_right, 10 ** 6, 10 ** 900, 10 ** 900), (sweep, TREE, 7), (check_turns, LINE, [1, 0]), (rest_after, TREE, [*range(11)]),
    (turns_heard, WEB, [*range(20)], 3, 9), (turns_heard, Web(2, []), [], 0, 1), (longest_way, TREE),
    (fewest_rounds, TREE), (best_turns, TREE),
    (tie_lost, COUNTERS, 1), (tie_opened, COUNTERS, [2, 0], 10 ** 900), (house_back, COUNTERS, 1, -10 ** 900),
    (meeting_broken, COUNTERS, 1, 0, "new"), (lacking, COUNTERS, 2, 10 ** 900),
    (Twin, CLOCK, 3), (silent_break, CLOCK, 3), (silent_break, Machine([(1, 2, 2)]), 0),
    (silent_holds, WEEK, 0, ["silent", 6, [1, 1], [0]]), (silent_holds, WEEK, 0, ["silent", 6, [1], [0]]),
    (doubled_deed, WEEK, 3), (doubled_deed, Machine([(1, 1)]), 0),
    (elder_paper, WEB), (elder_paper, Web(3, [[0, 1], [2, 1]])), (elder_paper, TREE), (shown_rows, TREE, RUN[:4]),
    (elder_run, WEB), (elder_run, Web(3, [[0, 1], [2, 1]])), (elder_run, TREE),
    (check_meetings, WEB, [19, 0] * 5000), (way_counts, WEB, 7, [*range(20)] * 20), (round_counts, WEB, 7, [*range(20)] * 2, 400),
    (heard_rounds, WEB, 7, [*range(20)]), (pace_of, THREE, 2, [0, 1, 2]), (pace_of, WEB, 2, [*range(20)]),
    (Store, CLOCK, WEB, 3), (Loads, LINE, 3, [[0, 2], [1]]), (cell_web, LOADS, 1), (CellNet, LOADS, 7),
    (cell_book, CellNet(LOADS), 2, 2), (lots_of, LOADS), (sum_paper, LOADS, [[5, -5, 0], [0, 0, 0]], [1, 1, 1]),
    (sum_paper, LOADS, [[0, 5, 0]], [1, 0, 1]), (tearing_tie, LOADS, [5, -5, 0]), (tearing_tie, LOADS, [0, 0, 0]),
    (kept_sums, LOADS, [[1, 0, 2], [0, 0, 0]]), (Desk, WEEK, LINE, 0),
)
SEARCHES = (
    (order_of, WEEK, 0, [0, 1] * 200, 2), (order_of, WEEK, 0, [0, 1], 2),
    (elder_holds, Web(3, [[0, 1], [2, 1]]), [[[1, 1, 2], [2, 1, 2]], [["do", 0, 0], ["meet", 0]]]),
    (elder_holds, THREE, [[[1, 2, 0]], [["do", 0, 0], ["meet", 0], ["meet", 1], ["meet", 2]]]),
    (untold_run, WINS, Web(3, [[0, 1], [2, 1]]), 0), (untold_run, WINS, LINE, 0),
    (gone_ways, THREE, 0, 2, [0, 1, 2] * 100), (gone_ways, WEB, 0, 11, [*range(20)]),
)
BY_NAME = (
    (home_states, {"home": 1}), (all_marks, {"home": 1, "out": 2, "most": 6}), (marks_paper, {"home": 1, "out": 2, "most": 6}),
    (needed_marks, {"home": 1, "out": 2, "most": 6}), (enough_home, {"most": 6}), (Traveller, {"most": 6}),
    (come_home, {"most": 6}), (brought_behind, {"most": 6}), (house_back, {"tie": 1}), (Twin, {"numbers": 3, "keeps": False}),
    (round_counts, {"modulus": 7}), (sum_paper, {"modulus": 5}),
)


def spoil(value):
    """Changes each list in a value."""
    if isinstance(value, (list, tuple)):
        for item in value:
            spoil(item)
    if isinstance(value, list):
        value.append("spoiled")
        value.reverse()


def names_of(function):
    """What a call must be passed by name."""
    return {"most": 20000} if function in [one for one, *_ in SEARCHES] else {}


class BasicsTest(unittest.TestCase):
    def test_results(self):
        for function, *args in CALLS + SEARCHES:
            passed = copy.deepcopy(args)
            names = names_of(function)
            result = function(*passed, **names)
            told = repr_of(result)
            self.assertEqual(repr_of(passed), repr_of(args), function)
            self.assertTrue(is_tupled(result), function)
            for attribute in getattr(result, "__dict__", {}).values():
                self.assertTrue(is_tupled(attribute), function)
            self.assertEqual(repr_of(function(*copy.deepcopy(args), **names)), told, function)
            spoil([item for item in passed if isinstance(item, list)])
            self.assertEqual(repr_of(result), told, function)

    def test_arguments_by_names(self):
        for function, *args in CALLS + SEARCHES:
            names = [one.name for one in inspect.signature(function).parameters.values() if one.kind is not one.KEYWORD_ONLY]
            self.assertEqual(len(names), len(args), function)
            more = names_of(function)
            by_names = function(**more, **dict(reversed(list(zip(names, copy.deepcopy(args))))))
            self.assertEqual(repr_of(by_names), repr_of(function(*copy.deepcopy(args), **more)), function)

    def test_only_by_name(self):
        for function, names in BY_NAME:
            args = [args for one, *args in CALLS if one is function][0]
            function(*args, **names)
            with self.assertRaises(TypeError):
                function(*args, *names.values())
        for function, *args in SEARCHES:
            with self.assertRaises(TypeError):
                function(*args)
            with self.assertRaises(TypeError):
                function(*args, 20000)

    def test_calls_in_between_change_nothing(self):
        calls = CALLS + SEARCHES
        told = [repr_of(function(*args, **names_of(function))) for function, *args in calls]
        again = [repr_of(function(*args, **names_of(function))) for function, *args in reversed(calls)]
        self.assertEqual(told, again[::-1])

    def test_lists_and_tuples_alike(self):
        for function, *args in CALLS + SEARCHES:
            tupled, names = [tuple_of(item) for item in args], names_of(function)
            self.assertEqual(repr_of(function(*tupled, **names)), repr_of(function(*args, **names)), function)

    def test_whether_is_true_or_false(self):
        for function, args in ((is_forest, [WEB]), (is_telling, [TURN, 0]), (is_telling, [RING, 0]),
                               (is_exchanging, [RING, 0]), (telling_holds, [STEPS, 0, PAPER]),
                               (telling_holds, [STEPS, 0, [1] * 5]), (telling_holds, [STEPS, 0, None]),
                               (audit_holds, [WEEK, THREE, 0, 0, None, [0, 1], RUNS]),
                               (audit_holds, [WEEK, THREE, 0, 0, None, None, RUNS]),
                               (audit_holds, [WEEK, THREE, 0, 0, None, None, 1]),
                               (is_rest, [CounterNet(LINE, 0, [5, 0, 2], [1, -3])]), (are_right, [0, 0, 0]),
                               (is_rest, [CounterNet(LINE, 0, [0] * 3, [0] * 2)]), (are_right, [5, 1, 2])):
            self.assertIs(type(function(*args)), bool)


def tuple_of(value):
    return tuple(tuple_of(item) for item in value) if isinstance(value, list) else value
