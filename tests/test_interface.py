"""The interface: each name stands in its own file, with the names of its arguments."""

import importlib
import inspect
import unittest

INTERFACE = {
    "errors": {
        "NetError": None, "BadMachine": "at", "BadWeb": "at", "BadRow": "at", "BadSteps": "at", "BadText": "at",
        "Refused": "at", "TooGreat": "most", "Untold": "archive here there", "Uncommuting": "state one other",
        "NoState": "state", "NoDeed": "deed", "NoHouse": "house", "NoTie": "tie",
    },
    "machines": {
        "Machine": "tables", "need_state": "machine state", "need_deed": "machine deed", "check_row": "machine value",
        "led": "machine state row", "orbit": "machine state",
    },
    "rows": {
        "commuting_paper": "machine state", "need_commuting": "machine state", "power_of": "machine state row",
    },
    "webs": {
        "Web": "houses ties", "need_house": "web house", "need_tie": "web tie", "part_of": "web house",
        "parts_of": "web", "rings_of": "web part", "is_forest": "web", "ring_paper": "web",
    },
    "texts": {
        "machine_text": "machine", "read_machine": "text", "row_text": "machine row", "read_row": "machine text",
        "web_text": "web", "read_web": "text",
    },
    "joins": {
        "join": "machine archive here there", "untold_rows": "machine archive here there",
        "telling_paper": "machine state", "is_telling": "machine state", "telling_holds": "machine state value",
        "joined_all": "machine archive states",
    },
    "orbits": {
        "orbit_table": "machine state", "is_exchanging": "machine state", "group_paper": "machine state",
        "inverse_of": "machine state one", "turned_join": "machine state archive here there",
    },
    "travellers": {
        "home_states": "machine archive * home=None",
        "all_marks": "machine archive * home=None out=None most=5000",
        "needed_marks": "machine archive state * home=None out=None most=5000",
        "marks_paper": "machine archive * home=None out=None most=5000",
        "Traveller": "machine archive * most=5000", "come_home": "machine archive here brought * most=5000",
        "brought_behind": "machine archive one other * most=5000", "enough_home": "machine archive * most=5000",
    },
    "nets": {
        "check_steps": "machine web value", "Net": "machine web first", "standing_after": "machine web first steps",
        "truth_of": "machine web first steps house",
    },
    "books": {
        "act_deeds": "web steps", "counts_after": "web steps", "heard_after": "web steps",
        "led_times": "machine state row times", "led_counts": "machine first deeds counts",
        "plain_state": "machine web first steps house", "first_twice": "web steps", "safe_ties": "web steps",
        "twice_run": "web", "wrong_run": "machine web first", "harmless_period": "machine first",
        "run_harm": "web steps",
    },
    "audits": {
        "audit_paper": "machine web first house houses=None ties=None",
        "audit_holds": "machine web first house houses ties value",
        "audit_state": "machine web first states archives house",
    },
    "walks": {
        "check_walk": "web value", "crossings": "web walk", "unread_acts": "web walk", "walked_counts": "web walk",
        "crossed_counts": "web walk", "careful_walk": "web walk", "cut_run": "web walk",
        "walked_standing": "machine web first walk", "walked_state": "machine web first walk",
    },
    "counters": {"CounterNet": "web modulus states archives"},
    "rests": {
        "is_rest": "net", "rest_values": "modulus rings total", "are_right": "modulus rings total", "sweep": "web house",
        "check_turns": "web value", "rest_after": "web turns", "turns_heard": "web turns house other",
        "longest_way": "web", "fewest_rounds": "web", "best_turns": "web",
    },
    "accidents": {
        "tie_lost": "net tie", "tie_opened": "net pair archive", "house_back": "net house state * tie=None",
        "meeting_broken": "net tie side archive", "lacking": "net house truth",
    },
    "breaks": {
        "Twin": "machine first * numbers=2 keeps=True", "silent_break": "machine first",
        "silent_holds": "machine first value", "doubled_deed": "machine first",
    },
    "elders": {
        "elder_paper": "web", "shown_rows": "web steps", "order_of": "machine first deeds state * most",
        "elder_run": "web", "elder_holds": "web value * most", "untold_run": "machine web first * most",
    },
    "rounds": {
        "check_meetings": "web value", "way_counts": "web house meetings",
        "gone_ways": "web house there meetings * most", "round_counts": "web house order rounds * modulus=0",
        "heard_rounds": "web house order", "pace_of": "web house order",
    },
    "store": {"Store": "machine web first"},
    "cells": {
        "Loads": "web cells carried", "cell_web": "loads cell", "CellNet": "loads modulus=0",
        "cell_book": "net house cell", "lots_of": "loads", "sum_paper": "loads changes weights * modulus=0",
        "tearing_tie": "loads amounts", "kept_sums": "loads changes",
    },
    "desk": {"Desk": "machine web first"},
}
METHODS = {
    ("machines", "Machine"): {"__eq__": "other"},
    ("webs", "Web"): {"__eq__": "other"},
    ("travellers", "Traveller"): {"do": "deed", "brought": ""},
    ("nets", "Net"): {"do": "house deed", "meet": "tie"},
    ("counters", "CounterNet"): {"do": "house amount", "meet": "tie", "book": "house"},
    ("breaks", "Twin"): {"do": "side deed", "ahead": "", "meet": "* side=0 whole=True"},
    ("store", "Store"): {"do": "house deed", "meet": "tie", "read": "house", "put_back": ""},
    ("cells", "Loads"): {"__eq__": "other"},
    ("cells", "CellNet"): {"do": "house amounts", "meet": "tie"},
    ("desk", "Desk"): {"say": "line"},
}


def arguments_of(thing):
    """The arguments that a call takes, as a text."""
    words = []
    for one in inspect.signature(thing).parameters.values():
        if one.kind is one.KEYWORD_ONLY and "*" not in words:
            words.append("*")
        words.append(one.name if one.default is one.empty else f"{one.name}={one.default}")
    return " ".join(words)


class InterfaceTest(unittest.TestCase):
    def test_each_name(self):
        for file, names in INTERFACE.items():
            module = importlib.import_module(f"houseslessties.{file}")
            for name, arguments in names.items():
                thing = getattr(module, name)
                self.assertEqual(thing.__module__, module.__name__, name)
                if arguments is not None:
                    self.assertEqual(arguments_of(thing), arguments, name)

    def test_methods_stand_in_the_classes_themselves(self):
        for (file, name), methods in METHODS.items():
            thing = getattr(importlib.import_module(f"houseslessties.{file}"), name)
            self.assertIn("__init__", vars(thing))
            for method, arguments in methods.items():
                self.assertEqual(arguments_of(vars(thing)[method]), f"self {arguments}".strip(), (name, method))
