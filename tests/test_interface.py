"""The interface: each name stands in its own file, with the names of its arguments."""

import importlib
import inspect
import unittest

INTERFACE = {
    "errors": {
        "NetError": None, "BadMachine": "at", "BadWeb": "at", "BadRow": "at", "BadSteps": "at", "BadText": "at",
        "Refused": "at", "TooGreat": "most", "Untold": "archive here there", "Uncommuting": "state one other",
        "NoState": "state", "NoDeed": "deed", "NoHouse": "house", "NoTie": "tie",
    },
    "machines": {
        "Machine": "tables", "need_state": "machine state", "need_deed": "machine deed", "check_row": "machine value",
        "led": "machine state row", "orbit": "machine state",
    },
    "rows": {
        "commuting_paper": "machine state", "need_commuting": "machine state", "power_of": "machine state row",
    },
    "webs": {
        "Web": "houses ties", "need_house": "web house", "need_tie": "web tie", "part_of": "web house",
        "parts_of": "web", "rings_of": "web part", "is_forest": "web", "ring_paper": "web",
    },
    "texts": {
        "machine_text": "machine", "read_machine": "text", "row_text": "machine row", "read_row": "machine text",
        "web_text": "web", "read_web": "text",
    },
    "joins": {
        "join": "machine archive here there", "untold_rows": "machine archive here there",
        "telling_paper": "machine state", "is_telling": "machine state", "telling_holds": "machine state value",
        "joined_all": "machine archive states",
    },
    "orbits": {
        "orbit_table": "machine state", "is_exchanging": "machine state", "group_paper": "machine state",
        "inverse_of": "machine state one", "turned_join": "machine state archive here there",
    },
}


class InterfaceTest(unittest.TestCase):
    def test_each_name(self):
        for file, names in INTERFACE.items():
            module = importlib.import_module(f"houseslessties.{file}")
            for name, arguments in names.items():
                thing = getattr(module, name)
                self.assertEqual(thing.__module__, module.__name__, name)
                if arguments is not None:
                    self.assertEqual(list(inspect.signature(thing).parameters), arguments.split(), name)

    def test_methods_stand_in_the_classes_themselves(self):
        for file, name in (("machines", "Machine"), ("webs", "Web")):
            thing = getattr(importlib.import_module(f"houseslessties.{file}"), name)
            self.assertIn("__init__", vars(thing))
            self.assertIn("__eq__", vars(thing))
