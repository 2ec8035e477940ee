"""Every name of the interface exists where it is listed, with its arguments."""

import importlib
import inspect
import subprocess
import sys
import unittest
from pathlib import Path

TOP = Path(__file__).resolve().parent.parent

FUNCTIONS = {
    "names": {"is_name": "value", "is_plain": "value", "is_number": "value", "are_ascending": "names"},
    "shapes": {
        "is_shape": "value", "numbers_of": "shape", "children_of": "shape", "find": "shape, number",
        "parent_of": "shape, number", "way_to": "shape, number", "following": "shape, number",
        "mark_of": "shape, name", "replaced": "shape, number, new", "without_child": "shape, number",
        "with_child": "shape, new, before", "with_mark": "shape, name, value"},
    "views": {"are_options": "value", "check_options": "options", "view": "shape, options", "bare": "shape",
              "is_wider": "options, other", "wants_mark": "options, name"},
    "treetexts": {"format_tree": "shape", "parse_tree": "text, first=0"},
    "watching": {"told": "change, node, options"},
    "rebuilding": {"rebuild": "whole, records"},
    "narrowing": {"narrowed": "first, wide, records, node, options"},
    "reversing": {"undone": "first, records"},
    "queries": {"is_test": "value", "looks_back": "test", "names_of": "test", "marks_of": "test", "texts_of": "test",
                "values_of": "test, mark", "subtests": "test"},
    "matching": {"answer": "shape, test"},
    "querytexts": {"parse_query": "text"},
    "needs": {"options_of": "test", "may_touch": "test, view, record"},
    "touching": {"touching": "test, kind"},
    "patches": {"patch": "first, second", "cost": "first, second", "staying": "first, second"},
}
CLASSES = {
    "documents": {"Document": {
        "__init__": "self", "element": "self, name", "text": "self, text",
        "insert": "self, parent, child, before=None", "remove": "self, child", "mark": "self, number, name, value",
        "unmark": "self, number, name", "write": "self, number, text", "shape": "self, number=0",
        "parent": "self, number", "children": "self, number", "above": "self, number", "nodes": "self",
        "changes": "self, start=0"}},
    "watching": {"Watch": {
        "__init__": "self, document", "observe": "self, node, options", "view": "self, number",
        "take": "self, number", "pause": "self"}},
    "rebuilding": {"Mirror": {"__init__": "self, first", "apply": "self, records", "view": "self"}},
    "lists": {"LiveList": {
        "__init__": "self, test, view", "answer": "self", "view": "self", "apply": "self, records", "asked": "self"}},
    "desk": {"Desk": {
        "__init__": "self, document", "look": "self, node, options", "keep": "self, node, test", "known": "self, number",
        "found": "self, number", "pause": "self"}},
    "errors": {
        "LookError": {}, "InvalidArgument": {"__init__": "self, name"}, "NoSuchNode": {"__init__": "self, number"},
        "NoSuchObserver": {"__init__": "self, number"}, "RefusedError": {"__init__": "self, reason"},
        "BadRecord": {"__init__": "self, place"}, "BadText": {"__init__": "self, place"},
        "BadQuery": {"__init__": "self, place"}},
}


class InterfaceTest(unittest.TestCase):
    def check(self, module, thing, name, arguments):
        self.assertTrue(inspect.isfunction(thing), name)
        self.assertEqual(thing.__module__, module.__name__, name)
        self.assertEqual(str(inspect.signature(thing)), f"({arguments})", name)

    def test_functions(self):
        for word, functions in FUNCTIONS.items():
            module = importlib.import_module("lookon." + word)
            for name, arguments in functions.items():
                self.check(module, getattr(module, name), name, arguments)

    def test_classes(self):
        for word, classes in CLASSES.items():
            module = importlib.import_module("lookon." + word)
            for name, methods in classes.items():
                self.assertEqual(getattr(module, name).__module__, module.__name__)
                for method, arguments in methods.items():
                    self.check(module, vars(getattr(module, name))[method], method, arguments)

    def test_each_part_alone(self):
        for word in sorted({*FUNCTIONS, *CLASSES}):
            done = subprocess.run([sys.executable, "-B", "-c", f"import lookon.{word}"], cwd=TOP, capture_output=True)
            self.assertEqual((done.returncode, done.stderr), (0, b""), word)


if __name__ == "__main__":
    unittest.main()
