"""[1], [2], [3], [10]: texts of machines, webs and rows."""

import unittest

from houseslessties.errors import BadRow, BadText
from houseslessties.machines import Machine
from houseslessties.texts import machine_text, read_machine, read_row, read_web, row_text, web_text
from houseslessties.webs import Web
from tests.cases import (
    MOST_MACHINE, WORN, all_rows, any_values, machines_of, raised, repr_of, some_machines, some_webs,
)

WEB = Web(4, [(0, 1), (3, 1)])
BENT_WORDS = ["", " ", "-1", "+1", "01", "00", "1.", "1.0", "x", "-", "13", "99999999999", "1" * 5000, "\u0661", "\u00b2",
              "0x1", "1_0", "True", "1\t", "\t1", "1\r", "\u00a01", "1\u2028", "1,"]


def bent_words(line):
    """(a line in which one word is not as before, lacks, is one too many, or stands beside another blank)."""
    words = line.split(" ")
    found = [line + " ", " " + line, line + " 0", line + "\r", line + "\t", line.replace(" ", "\t", 1) if " " in line
             else line + "\v", line.replace(" ", "  ", 1) if " " in line else line + "  "]
    for at, word in enumerate(words):
        found.append(" ".join(words[:at] + words[at + 1:]))
        found += [" ".join(words[:at] + [bent] + words[at + 1:]) for bent in BENT_WORDS]
        found.append(" ".join(words[:at] + ["0" + word] + words[at + 1:]))
    return [bent for bent in found if bent != line]


class TextTest(unittest.TestCase):
    def fault(self, read, *args):
        return raised(self, BadText, read, *args)["at"]

    def check_bent(self, read, text):
        """Each line of a text bent in each way is the line that is told."""
        lines = text.split("\n")
        for at, line in enumerate(lines):
            for bent in bent_words(line):
                told = "\n".join(lines[:at] + [bent] + lines[at + 1:])
                self.assertEqual(self.fault(read, told), at + 1, told)
                self.assertEqual(self.fault(read, "\n".join(lines[:at] + [bent, "x"] + lines[at + 1:])), at + 1)
            self.assertEqual(self.fault(read, "\n".join(lines[:at] + [""] + lines[at:])), at + 1)

    def check_no_text(self, read, *args):
        for value in [value for value in any_values() if not isinstance(value, str)] + [0, 1, ["states 1", "0"]]:
            self.assertEqual(self.fault(read, *args, value), 0)


class MachineTextTest(TextTest):
    def test_by_the_letter(self):
        self.assertEqual(machine_text(WORN), "states 4\n1 2 2 3\n0 0 2 3")
        self.assertEqual(machine_text(machine=Machine([(0,)])), "states 1\n0")
        self.assertEqual(machine_text(Machine([list(range(12))])), "states 12\n0 1 2 3 4 5 6 7 8 9 10 11")

    def test_read_back(self):
        for machine in machines_of(2, 2) + some_machines(60) + [MOST_MACHINE]:
            back = read_machine(machine_text(machine))
            self.assertEqual(repr_of(back), repr_of(machine))
        self.assertEqual(read_machine(text="states 2\n1 0"), Machine([(1, 0)]))

    def test_bent(self):
        self.check_bent(read_machine, "states 4\n1 2 2 3\n0 0 2 3")
        self.check_bent(read_machine, "states 2\n1 0")

    def test_heads(self):
        for head in ("", "states", "states ", "states 0", "states 13", "states -1", "states 02", "states  2", "States 2",
                     "states 2 ", " states 2", "houses 2", "2", "states two", "states " + "1" * 5000, "states 2 2"):
            self.assertEqual(self.fault(read_machine, head), 1)
            self.assertEqual(self.fault(read_machine, head + "\n1 0"), 1)
            self.assertEqual(self.fault(read_machine, head + "\nx"), 1)

    def test_lines_that_lack_or_are_too_many(self):
        self.assertEqual(self.fault(read_machine, "states 2"), 2)
        self.assertEqual(self.fault(read_machine, "states 2\n"), 2)
        self.assertEqual(read_machine("states 2" + "\n1 0" * 8).deeds, 8)
        self.assertEqual(self.fault(read_machine, "states 2" + "\n1 0" * 9), 10)
        self.assertEqual(self.fault(read_machine, "states 2" + "\n1 0" * 8 + "\n"), 10)
        self.assertEqual(self.fault(read_machine, "states 2" + "\n1 0" * 12), 10)
        self.assertEqual(self.fault(read_machine, "states 2" + "\n1 0" * 7 + "\n1\n1 0\n1"), 9)
        self.assertEqual(self.fault(read_machine, "states 2\n1 0\n"), 3)
        self.assertEqual(self.fault(read_machine, "states 2\r\n1 0"), 1)

    def test_states_that_are_none(self):
        self.assertEqual(self.fault(read_machine, "states 2\n0 2"), 2)
        self.assertEqual(self.fault(read_machine, "states 2\n0 1\n1 1 1"), 3)
        self.assertEqual(self.fault(read_machine, "states 2\n0 1\n1"), 3)

    def test_any_value(self):
        self.check_no_text(read_machine)
        for value in any_values():
            if isinstance(value, str):
                self.assertEqual(self.fault(read_machine, value), 2 if value == "states 1" else 1)


class WebTextTest(TextTest):
    def test_by_the_letter(self):
        self.assertEqual(web_text(WEB), "houses 4\n0 1\n3 1")
        self.assertEqual(web_text(web=Web(1, [])), "houses 1")
        self.assertEqual(web_text(Web(12, [(11, 10)])), "houses 12\n11 10")

    def test_read_back(self):
        for web in some_webs(80) + [Web(1, []), Web(12, []), Web(2, [(0, 1)] * 20)]:
            self.assertEqual(repr_of(read_web(web_text(web))), repr_of(web))
        self.assertEqual(read_web(text="houses 12\n11 10"), Web(12, [(11, 10)]))

    def test_bent(self):
        self.check_bent(read_web, "houses 4\n0 1\n3 1")
        self.check_bent(read_web, "houses 1")

    def test_heads(self):
        for head in ("", "houses", "houses 0", "houses 13", "houses 04", "houses  4", "Houses 4", "states 4", "4"):
            self.assertEqual(self.fault(read_web, head), 1)
            self.assertEqual(self.fault(read_web, head + "\n0 1"), 1)

    def test_lines(self):
        self.assertEqual(len(read_web("houses 2" + "\n1 0" * 20).ties), 20)
        self.assertEqual(self.fault(read_web, "houses 2" + "\n1 0" * 21), 22)
        self.assertEqual(self.fault(read_web, "houses 2" + "\n1 0" * 20 + "\n"), 22)
        self.assertEqual(self.fault(read_web, "houses 2" + "\n1 0" * 19 + "\n1 1" + "\n1 0"), 21)
        self.assertEqual(self.fault(read_web, "houses 2\n"), 2)
        self.assertEqual(self.fault(read_web, "houses 2\n0 1\n"), 3)
        self.assertEqual(self.fault(read_web, "houses 2\n\n0 1"), 2)

    def test_pairs(self):
        for line in ("0 0", "0 4", "4 0", "0", "0 1 2", "", "-", "0 -1"):
            self.assertEqual(self.fault(read_web, "houses 4\n0 1\n" + line + "\n0"), 3)

    def test_any_value(self):
        self.check_no_text(read_web)
        for value in any_values():
            if isinstance(value, str):
                self.assertEqual(self.fault(read_web, value), 1)


class RowTextTest(TextTest):
    def test_by_the_letter(self):
        self.assertEqual(row_text(WORN, (0, 1, 0)), "0 1 0")
        self.assertEqual(row_text(WORN, [1]), "1")
        self.assertEqual(row_text(WORN, []), "-")
        self.assertEqual(row_text(machine=WORN, row=()), "-")

    def test_read_back(self):
        for row in all_rows(2, 5):
            self.assertEqual(repr_of(read_row(WORN, row_text(WORN, row))), repr_of(row))
        self.assertEqual(read_row(MOST_MACHINE, "7 0 6"), (7, 0, 6))
        self.assertEqual(read_row(machine=WORN, text="-"), ())

    def test_no_row(self):
        for value, at in ((None, -1), ("0", -1), ([2], 0), ([0, True], 1), ([0] * 10001, -1), ((0, [0]), 1)):
            self.assertEqual(raised(self, BadRow, row_text, WORN, value), {"at": at})

    def test_lengths(self):
        self.assertEqual(read_row(WORN, row_text(WORN, [1] * 10000)), (1,) * 10000)
        self.assertEqual(self.fault(read_row, WORN, " ".join(["1"] * 10001)), 10000)
        self.assertEqual(self.fault(read_row, WORN, " ".join(["1"] * 10002)), 10000)
        self.assertEqual(self.fault(read_row, WORN, " ".join(["1"] * 9999 + ["2", "1"])), 9999)
        self.assertEqual(self.fault(read_row, WORN, " ".join(["1"] * 10000) + " "), 10000)
        self.assertEqual(self.fault(read_row, WORN, " ".join(["x"] + ["1"] * 10001)), 0)

    def test_words(self):
        for at, text in (
            (0, ""), (0, " "), (0, " 0"), (1, "0 "), (1, "0  1"), (0, "--"), (0, "- 0"), (1, "0 -"), (0, "-\n"), (0, "- "),
            (0, "0\n"), (0, "0\n1"), (1, "1 0\n"), (2, "1 0 2 3"), (0, "01"), (1, "1 00"), (0, "+1"), (0, "-0"), (0, "0\t1"),
        ):
            self.assertEqual(self.fault(read_row, WORN, text), at, text)
        for word in BENT_WORDS:
            self.assertEqual(self.fault(read_row, WORN, "1 0 " + word + " 0"), 2)
        self.assertEqual(self.fault(read_row, Machine([(0,)]), "0 1"), 1)

    def test_any_value(self):
        self.check_no_text(read_row, WORN)
        for value in any_values():
            if isinstance(value, str) and value not in ("0", "1"):
                self.assertEqual(self.fault(read_row, WORN, value), 0)
