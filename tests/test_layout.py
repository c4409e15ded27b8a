"""The interface stands where the document lists it, and the files are plain."""

import importlib
import os
import unittest

from giftstreams.rows import Row

UPON_OTHERS = ["__init__", "next_answer", "copy_on"]

PLACES = {
    "errors": {
        "GiftError": [], "NoRow": [], "Held": [], "Closed": [], "NoNumbers": [],
        "NoNumber": [], "NoCount": [], "NoGroup": [], "NoCopy": [], "NoText": [],
        "NoPlan": [], "NoStep": [], "NoSay": [], "NoName": [], "NoKind": []},
    "rows": {
        "want_free": [],
        "Row": [
            "__init__", "ask", "close", "copied", "is_over", "is_closed", "is_held",
            "beneath", "next_answer", "at_close", "copy_on", "may_copy", "told", "shut",
            "whole_copy", "end_it"]},
    "sources": {
        "Listed": ["__init__", "drawn"],
        "Counted": ["__init__", "drawn"],
        "ToldBy": ["__init__", "drawn"]},
    "turned": {"Turned": UPON_OTHERS, "Sieved": UPON_OTHERS},
    "cuts": {"Cut": UPON_OTHERS, "Left": UPON_OTHERS, "Upto": UPON_OTHERS},
    "joined": {"Chained": UPON_OTHERS, "Beside": UPON_OTHERS},
    "ahead": {"Ahead": [*UPON_OTHERS, "look"]},
    "windows": {"Windows": UPON_OTHERS},
    "groups": {
        "Groups": [*UPON_OTHERS, "at_close", "group"],
        "Group": ["__init__", "next_answer", "may_copy", "groups"]},
    "splits": {
        "split": [],
        "Reader": [*UPON_OTHERS, "at_close", "kept", "place", "split_row"]},
    "spares": {"Spare": [*UPON_OTHERS, "noted"], "Wanted": UPON_OTHERS},
    "nets": {"taken": [], "sources_of": []},
    "rules": {"is_rule": [], "is_test": [], "rule_told": [], "test_told": []},
    "plans": {"is_plan": [], "grown": []},
    "steps": {"steps_of": [], "stepped": [], "plainest": []},
    "plantexts": {"plan_text": [], "read_plan": []},
    "desk": {"Desk": ["__init__", "say"]}}

FOLDER = os.path.join(os.path.dirname(os.path.dirname(os.path.abspath(__file__))), "giftstreams")


class LayoutTest(unittest.TestCase):

    def test_each_name_is_defined_in_its_file(self):
        for file, names in PLACES.items():
            module = importlib.import_module("giftstreams." + file)
            for name in names:
                self.assertEqual(getattr(module, name).__module__, "giftstreams." + file)

    def test_each_method_is_defined_in_its_class(self):
        for file, names in PLACES.items():
            module = importlib.import_module("giftstreams." + file)
            for name, methods in names.items():
                for method in methods:
                    self.assertIn(method, vars(getattr(module, name)), name)

    def test_each_sort_of_row_stands_straight_under_row(self):
        for file, names in PLACES.items():
            module = importlib.import_module("giftstreams." + file)
            for name, methods in names.items():
                if methods and name not in ("Row", "Desk"):
                    self.assertEqual(getattr(module, name).__bases__, (Row,), name)

    def test_files_are_plain(self):
        for name in sorted(os.listdir(FOLDER)):
            if name == "__pycache__":
                continue
            self.assertTrue(name.endswith(".py"), name)
            with open(os.path.join(FOLDER, name), "rb") as file:
                data = file.read()
            lines = data.split(b"\n")
            self.assertLessEqual(len(lines), 400, name)
            for line in lines:
                self.assertLessEqual(len(line), 120, (name, line))
                self.assertTrue(all(32 <= sign <= 126 for sign in line), (name, line))
