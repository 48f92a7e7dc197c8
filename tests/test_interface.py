"""The interface: each name stands in its own file, with the names of its arguments."""

import importlib
import inspect
import unittest

INTERFACE = {
    "errors": {
        "NetError": None, "BadMachine": "at", "BadWeb": "at", "BadRow": "at", "BadSteps": "at", "BadText": "at",
        "Refused": "at", "TooGreat": "most", "Untold": "archive here there", "Uncommuting": "state one other",
        "NoState": "state", "NoDeed": "deed", "NoHouse": "house", "NoTie": "tie",
    },
    "machines": {
        "Machine": "tables", "need_state": "machine state", "need_deed": "machine deed", "check_row": "machine value",
        "led": "machine state row", "orbit": "machine state",
    },
    "rows": {
        "commuting_paper": "machine state", "need_commuting": "machine state", "power_of": "machine state row",
    },
}


class InterfaceTest(unittest.TestCase):
    def test_each_name(self):
        for file, names in INTERFACE.items():
            module = importlib.import_module(f"houseslessties.{file}")
            for name, arguments in names.items():
                thing = getattr(module, name)
                self.assertEqual(thing.__module__, module.__name__, name)
                if arguments is not None:
                    self.assertEqual(list(inspect.signature(thing).parameters), arguments.split(), name)

    def test_methods_stand_in_the_classes_themselves(self):
        machines = importlib.import_module("houseslessties.machines")
        self.assertIn("__eq__", vars(machines.Machine))
