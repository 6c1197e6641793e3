"""Promises 1, 2, 3 and 5: what is refused, and by which class."""

import unittest

from clockhand.errors import (BadRooms, BadRow, BadRule, PageError, TooMany)
from clockhand.hands import Dial, told
from clockhand.rules import lacking
from refusals import (BAD_PAGES, BAD_ROOMS, KINDS, bad_rows, check_bad_row,
                      check_bad_rooms, check_bad_rule)

RULES = ("hand", "unseen", "first")
NO_RULES = ("", "Hand", "HAND", "hand ", " hand", "han", "hands", "last",
            "best", "hand,first", "unseen first", "0", "\n", "x" * 200)


class Classes(unittest.TestCase):
    def test_what_stands_under_what(self):
        self.assertEqual(PageError.__bases__, (ValueError,))
        for kind in KINDS:
            self.assertEqual(kind.__bases__, (PageError,))

    def test_place_is_set_when_a_bad_row_is_created(self):
        for place in (0, 7, 100):
            self.assertEqual(BadRow(place).place, place)

    def test_each_may_be_caught_as_a_page_error(self):
        for refused in (BadRooms("x"), BadRow(1), BadRule("x"), TooMany("x")):
            with self.assertRaises(PageError):
                raise refused


class Rooms(unittest.TestCase):
    def test_bad_rooms(self):
        for rooms in BAD_ROOMS:
            with self.subTest(rooms=rooms):
                check_bad_rooms(self, Dial, rooms)
                check_bad_rooms(self, told, rooms, [])
                check_bad_rooms(self, told, rooms, [0, 1])
                for rule in RULES:
                    check_bad_rooms(self, lacking, rooms, [0, 1], rule)

    def test_good_rooms(self):
        for rooms in range(1, 9):
            Dial(rooms)
            told(rooms, [0])
            for rule in RULES:
                lacking(rooms, [0], rule)


class Pages(unittest.TestCase):
    def state(self, dial):
        return dial.pages(), dial.looked(), dial.points(), dial.lacked()

    def test_bad_pages_change_nothing(self):
        for row in ([], [0], [0, 1, 2], [0, 1, 2, 3], [0, 1, 2, 3, 1]):
            for page in BAD_PAGES:
                dial, other = Dial(3), Dial(3)
                for good in row:
                    dial.ask(good)
                    other.ask(good)
                check_bad_row(self, 0, dial.ask, page)
                self.assertEqual(self.state(dial), self.state(other))
                self.assertEqual(dial.ask(5), other.ask(5))
                self.assertEqual(self.state(dial), self.state(other))

    def test_each_page_is_good(self):
        for page in range(12):
            self.assertEqual(Dial(2).ask(page), (True, None, []))
            self.assertEqual(told(2, [page]), [(True, None, [])])


class Rows(unittest.TestCase):
    def test_bad_rows(self):
        for row, place in bad_rows():
            with self.subTest(row=row):
                handed = list(row)
                check_bad_row(self, place, told, 3, row)
                for rule in RULES:
                    check_bad_row(self, place, lacking, 3, row, rule)
                self.assertEqual(row, handed)

    def test_a_hundred_asks_are_good(self):
        self.assertEqual(len(told(3, [3] * 100)), 100)
        for rule in RULES:
            self.assertEqual(lacking(3, [3] * 100, rule), [0])

    def test_a_refused_row_changes_nothing(self):
        check_bad_row(self, 2, told, 2, [0, 1, 12])
        self.assertEqual(told(2, [0, 1]), [(True, None, [])] * 2)


class Rules(unittest.TestCase):
    def test_texts_that_are_no_rule(self):
        for rule in NO_RULES:
            with self.subTest(rule=rule):
                check_bad_rule(self, lacking, 3, [0, 1, 2], rule)
                check_bad_rule(self, lacking, 3, [], rule)


class SeveralWrong(unittest.TestCase):
    def test_rooms_come_first(self):
        for rooms in BAD_ROOMS:
            check_bad_rooms(self, told, rooms, [12])
            check_bad_rooms(self, told, rooms, [3] * 101)
            check_bad_rooms(self, lacking, rooms, [0], "no rule")
            for rule in ("hand", "no rule"):
                check_bad_rooms(self, lacking, rooms, [-1], rule)
                check_bad_rooms(self, lacking, rooms, [3] * 101, rule)

    def test_the_row_comes_ahead_of_the_rule(self):
        for row, place in bad_rows():
            for rule in NO_RULES:
                check_bad_row(self, place, lacking, 3, row, rule)


if __name__ == "__main__":
    unittest.main()
