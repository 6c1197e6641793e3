"""The interface: its names, where they are defined, and their arguments."""

import inspect
import unittest

from clockhand import (best, errors, hands, papers, rules, stretches,
                       worst)

FUNCTIONS = (
    (hands, "told", ["rooms", "row"]),
    (rules, "lacking", ["rooms", "row", "rule"]),
    (best, "best", ["rooms", "row"]),
    (papers, "spells", ["row"]),
    (papers, "paper", ["rooms", "row"]),
    (papers, "shown", ["rooms", "row", "places"]),
    (stretches, "stretches", ["rooms", "row"]),
    (stretches, "lacking_in", ["rooms", "row", "rule"]),
    (worst, "worst", ["rooms", "pages", "long", "rule"]),
)
DIAL_METHODS = (
    ("ask", ["self", "page"]),
    ("pages", ["self"]),
    ("looked", ["self"]),
    ("points", ["self"]),
    ("lacked", ["self"]),
)
ERRORS = ("PageError", "BadRooms", "BadRow", "BadRule", "TooMany")


class Interface(unittest.TestCase):
    def check_arguments(self, function, arguments):
        self.assertEqual(list(inspect.signature(function).parameters),
                         arguments)

    def test_functions(self):
        for module, name, arguments in FUNCTIONS:
            function = getattr(module, name)
            self.assertEqual(function.__module__, module.__name__)
            self.check_arguments(function, arguments)

    def test_dial(self):
        self.assertEqual(hands.Dial.__module__, "clockhand.hands")
        self.check_arguments(hands.Dial, ["rooms"])
        for name, arguments in DIAL_METHODS:
            self.check_arguments(vars(hands.Dial)[name], arguments)

    def test_errors(self):
        for name in ERRORS:
            self.assertEqual(getattr(errors, name).__module__,
                             "clockhand.errors")

    def test_arguments_may_be_named(self):
        self.assertEqual(hands.Dial(rooms=2).ask(page=1), (True, None, []))
        self.assertEqual(hands.told(row=[1], rooms=2), [(True, None, [])])
        self.assertEqual(rules.lacking(rule="hand", row=[1], rooms=2), [0])
        self.assertEqual(best.best(row=[1], rooms=2), ([0], []))
        self.assertEqual(papers.spells(row=[1]), [])
        self.assertIs(type(papers.paper(row=[1], rooms=2)), list)
        self.assertEqual(papers.shown(places=[], row=[1], rooms=2), 1)
        self.assertEqual(stretches.stretches(row=[1], rooms=2), [(0, 1)])
        self.assertEqual(
            stretches.lacking_in(rule="hand", row=[1], rooms=2), [1])
        self.assertEqual(
            worst.worst(rule="hand", long=1, pages=1, rooms=1), (0, [0]))


if __name__ == "__main__":
    unittest.main()
