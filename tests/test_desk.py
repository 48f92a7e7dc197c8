"""[1], [2], [59]: a desk, line by line."""

import random
import unittest

from houseslessties.desk import Desk
from houseslessties.errors import BadText, NoDeed, NoHouse, NoState, NoTie, Refused, Untold
from houseslessties.store import Store
from houseslessties.webs import Web
from tests.cases import LINE, SWAP, THREE, TURN, WEEK, any_values, no_numbers, raised, repr_of, some_webs

FORMLESS = [
    "", " ", "-", "do", "do ", "do 0", "do 0 ", "do 0 0 ", " do 0 0", "do  0 0", "do 0  0", "do 0 0 0", "do 00 0", "do 0 01",
    "do -1 0", "do +1 0", "do 0 x", "do 0 1.0", "do 0 1_0", "do 1234567890 0", "do 0 0000000000", "do 0 0\n", "\ndo 0 0",
    "do\t0 0", "do 0\t0", "Do 0 0", "DO 0 0", "meet", "meet ", "meet 0 0", "meet 00", "meet 0,", "meet -", "meet  0",
    "meet 1000000000", "read", "read 0 1", "read x", "read 05", "read \u0661", "read \u00b2", "read 0x1", "states 0",
    "states ", " states", "state", "ties 1", "tie", "copies ?", "copies ", "copy", "steps 0", "step", "backup 0", "back up",
    "caught 1", "catch", "back 0", "back ", "none", "ok", "untold", "refused", "0", "do 0 0; meet 0", "states\n", "None",
    "states states", "put_back", "put back", "do,0,0", "do 0 0\r", "do 0 \u00a00", "read None", "read True", "read ''",
]
WHOLE = {
    "states": "0 0 0", "ties": "0 0", "copies": "? ? ?", "steps": "0", "backup": "none", "caught": "none", "back": "none",
}


def line_of(values):
    return " ".join("?" if value is None else str(value) for value in values) or "-"


class DeskTest(unittest.TestCase):
    def test_first(self):
        desk = Desk(machine=WEEK, web=LINE, first=0)
        self.assertIsInstance(desk.store, Store)
        self.assertEqual((desk.store.machine, desk.store.web, desk.store.first), (WEEK, LINE, 0))
        self.assertEqual({line: desk.say(line) for line in WHOLE}, WHOLE)
        for value in no_numbers() + [7]:
            self.assertIs(raised(self, NoState, Desk, WEEK, LINE, value)["state"], value)

    def test_each_form(self):
        desk = Desk(WEEK, LINE, 0)
        for line, answer in (
                ("do 0 0", "1"), ("do 2 1", "3"), ("read 1", "0"), ("copies", "? 0 ?"), ("meet 0", "1"), ("copies", "1 0 ?"),
                ("states", "1 1 3"), ("ties", "1 0"), ("steps", "3"), ("backup", "none"), ("caught", "none"),
                ("back", "none"), ("read 1", "refused"), ("read 2", "3"), ("copies", "? ? ?"), ("backup", "1 0 3, 0 0"),
                ("caught", "2"), ("do 1 0", "2"), ("steps", "4"), ("read 0", "1"), ("back", "ok"), ("states", "1 0 3"),
                ("ties", "0 0"), ("steps", "2"), ("copies", "? ? ?"), ("backup", "1 0 3, 0 0"), ("caught", "2"),
                ("meet 1", "3"), ("back", "ok"), ("states", "1 0 3")):
            self.assertEqual(repr_of(desk.say(line=line)), repr_of(answer), line)

    def test_without_ties(self):
        desk = Desk(WEEK, Web(2, []), 5)
        self.assertEqual([desk.say(line) for line in ("ties", "read 0", "read 1", "backup", "caught", "back", "ties")],
                         ["-", "5", "5", "5 5, -", "0", "ok", "-"])
        self.assertEqual(Desk(WEEK, Web(1, []), 5).say("meet 0"), "refused")

    def test_untold_and_refused(self):
        desk = Desk(TURN, LINE, 0)
        lines = ("do 0 0", "do 1 1", "meet 0", "read 0", "meet 0", "read 0", "copies", "steps", "do 1 0", "do 0 1", "meet 0")
        self.assertEqual([desk.say(line) for line in lines],
                         ["1", "3", "untold", "1", "untold", "refused", "1 ? ?", "2", "0", "2", "2"])

    def test_lines_that_name_no_house_tie_or_deed(self):
        desk = Desk(WEEK, LINE, 0)
        before = repr_of(desk)
        for line in ("do 3 0", "do 0 2", "do 999999999 0", "do 0 999999999", "do 123456789 123456789", "meet 2",
                     "meet 999999999", "read 3", "read 100000000"):
            self.assertEqual(desk.say(line), "refused")
        self.assertEqual(repr_of(desk), before)

    def test_lines_of_no_form(self):
        desk = Desk(WEEK, LINE, 0)
        for line in ("do 0 0", "read 0", "meet 0"):
            desk.say(line)
        before = repr_of(desk)
        for line in FORMLESS + any_values() + [b"states", ["states"], ("do", 0, 0), 0]:
            self.assertEqual(raised(self, BadText, desk.say, line), {"at": 0}, line)
        self.assertEqual(repr_of(desk), before)

    def test_against_a_store(self):
        rolls = random.Random(1)
        for machine in (WEEK, TURN, SWAP):
            for web in some_webs(12, 41) + [THREE, LINE]:
                desk, store = Desk(machine, web, 0), Store(machine, web, 0)
                for _ in range(60):
                    line = rolls.choice([
                        f"do {rolls.randrange(web.houses + 1)} {rolls.randrange(machine.deeds + 1)}",
                        f"meet {rolls.randrange(len(web.ties) + 1)}", f"read {rolls.randrange(web.houses + 1)}", "back",
                    ] + list(WHOLE))
                    self.assertEqual(desk.say(line), self.answer(store, line))
                    self.assertEqual(repr_of(vars(desk.store)), repr_of(vars(store)))

    def answer(self, store, line):
        word, *numbers = line.split()
        try:
            if word in ("do", "meet", "read"):
                return str(getattr(store, word)(*map(int, numbers)))
            if word == "back":
                return "ok" if store.put_back() is None else ""
        except Untold:
            return "untold"
        except (NoHouse, NoDeed, NoTie):
            return "refused"
        except Refused as error:
            return "none" if error.at is None else "refused"
        if word in ("backup", "caught") and store.backup is None:
            return "none"
        return {
            "states": lambda: line_of(store.states), "ties": lambda: line_of(store.archives),
            "copies": lambda: line_of(store.copies), "steps": lambda: str(len(store.steps)),
            "backup": lambda: ", ".join(map(line_of, store.backup)), "caught": lambda: str(len(store.caught)),
        }[word]()
