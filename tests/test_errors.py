"""[4]: the errors."""

import unittest

from houseslessties import errors
from houseslessties.accidents import tie_lost, tie_opened
from houseslessties.audits import audit_paper
from houseslessties.books import counts_after, harmless_period
from houseslessties.breaks import Twin, silent_break
from houseslessties.cells import CellNet, Loads
from houseslessties.counters import CounterNet
from houseslessties.desk import Desk
from houseslessties.elders import order_of, shown_rows, untold_run
from houseslessties.joins import join, joined_all
from houseslessties.machines import Machine, led, need_deed
from houseslessties.nets import Net, standing_after
from houseslessties.rests import turns_heard
from houseslessties.rounds import gone_ways, pace_of, round_counts
from houseslessties.store import Store
from houseslessties.texts import read_row, read_web
from houseslessties.travellers import all_marks, come_home
from houseslessties.walks import check_walk
from houseslessties.webs import Web, part_of
from tests.cases import LINE, MOST_WEB, SWAP, THREE, TURN, WEEK, nested, raised

NET_ERRORS = {
    "BadMachine": ("at",), "BadWeb": ("at",), "BadRow": ("at",), "BadSteps": ("at",), "BadText": ("at",),
    "Refused": ("at",), "TooGreat": ("most",), "Untold": ("archive", "here", "there"),
    "Uncommuting": ("state", "one", "other"),
}
KEY_ERRORS = {"NoState": ("state",), "NoDeed": ("deed",), "NoHouse": ("house",), "NoTie": ("tie",)}


REFUSED = (
    ("BadMachine", {"at": 1}, Machine, [(1, 0), (0,)]), ("BadMachine", {"at": -1}, Machine, []),
    ("BadWeb", {"at": 0}, Web, 2, [(0, 2)]),
    ("BadWeb", {"at": -1}, tie_opened, CounterNet(MOST_WEB, 0, [0] * 12, [0] * 20), (0, 1), 0),
    ("BadRow", {"at": 2}, led, WEEK, 0, (0, 1, 2)), ("BadSteps", {"at": 0}, standing_after, WEEK, LINE, 0, [("do", 0, 2)]),
    ("BadSteps", {"at": -1}, counts_after, LINE, None), ("BadSteps", {"at": 1}, check_walk, LINE, [("read", 0)] * 2),
    ("BadSteps", {"at": 1}, pace_of, LINE, 0, [0, 2]), ("BadText", {"at": 2}, read_web, "houses 2\n0 0"),
    ("BadText", {"at": 0}, Desk(WEEK, LINE, 0).say, "do 0"), ("BadText", {"at": 1}, read_row, WEEK, "0 2"),
    ("Refused", {"at": 4}, Twin, WEEK, 0, "numbers"), ("Refused", {"at": THREE}, shown_rows, THREE, []),
    ("Refused", {"at": None}, Store(WEEK, LINE, 0).put_back), ("Refused", {"at": 1}, CellNet, Loads(LINE, 1, [(), ()]), 1),
    ("Refused", {"at": (0, 0)}, turns_heard, LINE, (0, 0), 0, 1), ("Refused", {"at": 3}, come_home, SWAP, 0, 0, 3),
    ("TooGreat", {"most": 2}, all_marks, SWAP, 0, "most"), ("TooGreat", {"most": 1}, order_of, WEEK, 0, (0, 1), 6, "most"),
    ("TooGreat", {"most": 3}, gone_ways, THREE, 0, 0, (0, 1, 2), "most"), ("TooGreat", {"most": 400}, round_counts, LINE, 0, [0], 401),
    ("TooGreat", {"most": 5}, untold_run, WEEK, LINE, 0, "most"),
    ("Untold", {"archive": 0, "here": 1, "there": 3}, join, TURN, 0, 1, 3),
    ("Untold", {"archive": 0, "here": 1, "there": 1}, joined_all, TURN, 0, (1, 1)),
    ("Uncommuting", {"state": 0, "one": 0, "other": 1}, harmless_period, TURN, 0),
    ("Uncommuting", {"state": 0, "one": 0, "other": 1}, silent_break, SWAP, 0),
    ("NoState", {"state": True}, audit_paper, WEEK, LINE, True, 0), ("NoState", {"state": 7}, Store, WEEK, LINE, 7),
    ("NoDeed", {"deed": -1}, need_deed, WEEK, -1), ("NoDeed", {"deed": 2}, Store(WEEK, LINE, 0).do, 0, 2),
    ("NoHouse", {"house": "0"}, part_of, LINE, "0"), ("NoHouse", {"house": 3}, gone_ways, LINE, 0, 3, (), "most"),
    ("NoTie", {"tie": None}, Net(WEEK, LINE, 0).meet, None), ("NoTie", {"tie": 2}, tie_lost, CounterNet(LINE, 0, [0] * 3, [0] * 2), 2),
)


class ErrorsTest(unittest.TestCase):
    def test_refused_questions(self):
        for name, told, function, *args in REFUSED:
            more = {}
            if args and args[-1] in ("numbers", "most"):
                more = {args[-1]: told.get("most", told.get("at", 1))}
                args = args[:-1]
            self.assertEqual(raised(self, getattr(errors, name), function, *args, **more), told, name)
        self.assertEqual({name for name, *_ in REFUSED}, {*NET_ERRORS, *KEY_ERRORS})

    def test_net_error_is_the_base_class(self):
        self.assertEqual(errors.NetError.__bases__, (ValueError,))

    def test_direct_subclasses(self):
        for name in NET_ERRORS:
            self.assertEqual(getattr(errors, name).__bases__, (errors.NetError,), name)
        for name in KEY_ERRORS:
            self.assertEqual(getattr(errors, name).__bases__, (KeyError,), name)

    def test_none_is_derived_from_another_one(self):
        kinds = [getattr(errors, name) for name in {**NET_ERRORS, **KEY_ERRORS}]
        for one in kinds:
            self.assertEqual([other for other in kinds if issubclass(one, other)], [one])

    def test_arguments_are_kept_as_they_are(self):
        things = [[1, [2]], nested(40), object()], [{}, None, True], ["", 10 ** 5000, errors.NetError]
        for name, fields in {**NET_ERRORS, **KEY_ERRORS}.items():
            kind = getattr(errors, name)
            for some in things:
                passed = some[:len(fields)]
                by_position = kind(*passed)
                by_name = kind(**dict(zip(fields, passed)))
                for field, thing in zip(fields, passed):
                    self.assertIs(getattr(by_position, field), thing)
                    self.assertIs(getattr(by_name, field), thing)

    def test_other_arguments_are_none_of_the_constructor(self):
        for name, fields in {**NET_ERRORS, **KEY_ERRORS}.items():
            for many in (len(fields) - 1, len(fields) + 1):
                with self.assertRaises(TypeError):
                    getattr(errors, name)(*range(many))

    def test_raised_and_caught(self):
        with self.assertRaises(errors.NetError) as caught:
            raise errors.Untold(1, 2, 3)
        self.assertEqual((caught.exception.archive, caught.exception.here, caught.exception.there), (1, 2, 3))
        with self.assertRaises(KeyError) as caught:
            raise errors.NoTie([])
        self.assertEqual(caught.exception.tie, [])
