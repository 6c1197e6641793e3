"""Promises 1, 2, 3 and 5: what is refused, and by which class.

What papers and worst refuse of their own is tested with them.
"""

import unittest

from clockhand.best import best
from clockhand.errors import (BadRooms, BadRow, BadRule, PageError, TooMany)
from clockhand.hands import Dial, told
from clockhand.papers import paper, shown, spells
from clockhand.rules import lacking
from clockhand.stretches import lacking_in, stretches
from refusals import (BAD_PAGES, BAD_ROOMS, KINDS, bad_rows, check_bad_row,
                      check_bad_rooms, check_bad_rule)

RULES = ("hand", "unseen", "first")
NO_RULES = ("", "Hand", "HAND", "hand ", " hand", "han", "hands", "last",
            "best", "hand,first", "unseen first", "0", "\n", "x" * 200)
# What is handed rooms and a row, and what is handed a rule behind them.
ASKED = (told, best, paper, stretches)
RULED = (lacking, lacking_in)


class Classes(unittest.TestCase):
    def test_what_stands_under_what(self):
        self.assertEqual(PageError.__bases__, (ValueError,))
        for kind in KINDS:
            self.assertEqual(kind.__bases__, (PageError,))

    def test_place_is_set_when_a_bad_row_is_created(self):
        for place in (0, 7, 100):
            self.assertEqual(BadRow(place).place, place)

    def test_each_may_be_caught_as_a_page_error(self):
        for refused in (BadRooms("x"), BadRow(1), BadRule("x"), TooMany("x")):
            with self.assertRaises(PageError):
                raise refused


def asked(rooms, row, rules=RULES):
    """Tell what may be called with rooms and a row, and what is handed in."""
    calls = [(call, rooms, row) for call in ASKED]
    calls += [(shown, rooms, row, []), (shown, rooms, row, [0])]
    calls += [(call, rooms, row, rule) for call in RULED for rule in rules]
    return calls


class Rooms(unittest.TestCase):
    def test_bad_rooms(self):
        for rooms in BAD_ROOMS:
            with self.subTest(rooms=rooms):
                check_bad_rooms(self, Dial, rooms)
                for row in ([], [0, 1], [3] * 100):
                    for handed in asked(rooms, row):
                        check_bad_rooms(self, *handed)

    def test_good_rooms(self):
        for rooms in range(1, 9):
            Dial(rooms)
            for call, *handed in asked(rooms, [0]):
                call(*handed)


class Pages(unittest.TestCase):
    def state(self, dial):
        return dial.pages(), dial.looked(), dial.points(), dial.lacked()

    def test_bad_pages_change_nothing(self):
        for row in ([], [0], [0, 1, 2], [0, 1, 2, 3], [0, 1, 2, 3, 1]):
            for page in BAD_PAGES:
                dial, other = Dial(3), Dial(3)
                for good in row:
                    dial.ask(good)
                    other.ask(good)
                check_bad_row(self, 0, dial.ask, page)
                self.assertEqual(self.state(dial), self.state(other))
                self.assertEqual(dial.ask(5), other.ask(5))
                self.assertEqual(self.state(dial), self.state(other))

    def test_each_page_is_good(self):
        for page in range(12):
            self.assertEqual(Dial(2).ask(page), (True, None, []))
            self.assertEqual(told(2, [page]), [(True, None, [])])


class Rows(unittest.TestCase):
    def test_bad_rows(self):
        for row, place in bad_rows():
            with self.subTest(row=row):
                before = list(row)
                check_bad_row(self, place, spells, row)
                for rooms in (1, 3, 8):
                    for handed in asked(rooms, row):
                        check_bad_row(self, place, *handed)
                self.assertEqual(row, before)

    def test_a_hundred_asks_are_good(self):
        row = [3] * 100
        self.assertEqual(len(told(3, row)), 100)
        self.assertEqual(best(3, row), ([0], []))
        self.assertEqual(len(spells(row)), 99)
        self.assertEqual(shown(3, row, []), 1)
        self.assertEqual(shown(3, row, paper(3, row)), 1)
        self.assertEqual(stretches(3, row), [(0, 100)])
        for rule in RULES:
            self.assertEqual(lacking(3, row, rule), [0])
            self.assertEqual(lacking_in(3, row, rule), [1])

    def test_each_page_is_good(self):
        row = list(range(12))
        self.assertEqual(spells(row), [])
        for call, *handed in asked(3, row):
            call(*handed)

    def test_a_refused_row_changes_nothing(self):
        for handed in asked(2, [0, 1, 12]):
            check_bad_row(self, 2, *handed)
        check_bad_row(self, 2, spells, [0, 1, 12])
        self.assertEqual(told(2, [0, 1]), [(True, None, [])] * 2)
        self.assertEqual(best(2, [0, 1]), ([0, 1], []))
        self.assertEqual(spells([0, 1]), [])
        self.assertEqual(shown(2, [0, 1], []), 2)
        self.assertEqual(stretches(2, [0, 1]), [(0, 2)])
        for rule in RULES:
            self.assertEqual(lacking(2, [0, 1], rule), [0, 1])
            self.assertEqual(lacking_in(2, [0, 1], rule), [2])


class Rules(unittest.TestCase):
    def test_texts_that_are_no_rule(self):
        for rule in NO_RULES:
            with self.subTest(rule=rule):
                for call in RULED:
                    check_bad_rule(self, call, 3, [0, 1, 2], rule)
                    check_bad_rule(self, call, 3, [], rule)


class SeveralWrong(unittest.TestCase):
    def test_rooms_come_first(self):
        for rooms in BAD_ROOMS:
            for row in ([12], [-1], [3] * 101):
                for handed in asked(rooms, row, RULES + ("no rule",)):
                    check_bad_rooms(self, *handed)
            for call in RULED:
                check_bad_rooms(self, call, rooms, [0], "no rule")
            for places in ([-1], [1], [0, 0]):
                check_bad_rooms(self, shown, rooms, [0], places)
                check_bad_rooms(self, shown, rooms, [12], places)

    def test_the_row_comes_ahead_of_the_rule(self):
        for row, place in bad_rows():
            for rule in NO_RULES:
                for call in RULED:
                    check_bad_row(self, place, call, 3, row, rule)

    def test_the_row_comes_ahead_of_the_paper(self):
        for row, place in bad_rows():
            for places in ([-1], [0, 0], [1, 0], [len(row)], [200]):
                check_bad_row(self, place, shown, 3, row, places)


if __name__ == "__main__":
    unittest.main()
