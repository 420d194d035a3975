"""Everything that the interface lists stands where it lists it, with its arguments."""

import importlib
import inspect
import unittest

FUNCTIONS = {
    "dates": {"date_of": ["day"], "day_of": ["year", "month", "number"], "from_end": ["day"]},
    "rules": {
        "is_rule": ["thing"], "length_of": ["rule"], "begins": ["rule", "hour"], "covers": ["rule", "hour"],
        "starts": ["rule", "start", "end"],
    },
    "notes": {"shown": ["rule"], "read": ["text"]},
    "rounds": {"round_of": ["rule"], "settled": ["rule"]},
}
METHODS = {
    "come": ["name", "free"], "busy": ["name", "rule"], "people": [], "is_free": ["name", "hour"],
    "first": ["names", "hours", "start", "end"], "meet": ["names", "hours", "start", "end"], "meetings": [],
    "drop": ["number"], "move": ["number", "start", "end"], "ever": ["names", "hours", "start"],
}


class TestInterface(unittest.TestCase):
    def test_functions(self):
        for file, functions in FUNCTIONS.items():
            module = importlib.import_module("freehour." + file)
            for name, arguments in functions.items():
                function = getattr(module, name)
                self.assertEqual(function.__module__, module.__name__)
                self.assertEqual(list(inspect.signature(function).parameters), arguments)

    def test_book(self):
        book = importlib.import_module("freehour.book").Book
        self.assertEqual(book.__module__, "freehour.book")
        self.assertEqual(list(inspect.signature(book).parameters), [])
        for name, arguments in METHODS.items():
            self.assertIn(name, vars(book))
            self.assertEqual(list(inspect.signature(vars(book)[name]).parameters), ["self"] + arguments)


if __name__ == "__main__":
    unittest.main()
