"""Promise 11: the rows on which a rule does worst."""

import unittest

from clockhand.best import best
from clockhand.rules import lacking
from clockhand.worst import worst
from models import worst_by_models
from refusals import (BAD_ROOMS, FORTY_FIGURES, check_bad_row,
                      check_bad_rooms, check_bad_rule, check_too_many)

RULES = ("hand", "unseen", "first")
TOO_MANY = ((2, 13), (3, 8), (4, 7), (5, 6), (6, 5), (7, 5), (8, 5), (9, 4),
            (10, 4), (11, 4), (12, 4), (1, 5001), (2, 5001), (12, 5001),
            (2, 5000), (12, 5000), (1, FORTY_FIGURES), (2, FORTY_FIGURES),
            (12, FORTY_FIGURES))
BAD_PAGES = (0, 13, -1, FORTY_FIGURES, -FORTY_FIGURES)
BAD_LENGTHS = (-1, -2, -FORTY_FIGURES)


class ByHand(unittest.TestCase):
    def check(self, rooms, pages, long, more, row):
        for rule in RULES:
            with self.subTest(rooms=rooms, pages=pages, long=long, rule=rule):
                self.assertEqual(worst(rooms, pages, long, rule), (more, row))

    def test_length_of_0(self):
        for rooms in range(1, 9):
            for pages in range(1, 13):
                self.check(rooms, pages, 0, 0, [])

    def test_length_of_1(self):
        self.check(1, 12, 1, 0, [0])

    def test_one_room_leaves_no_choice(self):
        self.check(1, 3, 6, 0, [0] * 6)

    def test_no_more_pages_than_rooms(self):
        self.check(2, 2, 6, 0, [0] * 6)
        self.check(8, 5, 4, 0, [0] * 4)

    def test_the_first_row_on_which_a_page_goes_that_comes_next(self):
        # For 2 each rule lets 0 go, the best lets 1 go.
        self.check(2, 3, 3, 0, [0, 0, 0])
        self.check(2, 3, 4, 1, [0, 1, 2, 0])
        self.check(3, 4, 5, 1, [0, 1, 2, 3, 0])

    def test_of_like_rows_the_first_is_told(self):
        # [0, 1, 2, 0, 0] has one more as well, but ascends behind it.
        self.check(2, 3, 5, 1, [0, 0, 1, 2, 0])
        self.check(2, 4, 5, 1, [0, 0, 1, 2, 0])

    def test_two_more(self):
        # By each rule each ask lacks; the best lets 1 go for 2, and 0 for 1.
        self.check(2, 3, 6, 2, [0, 1, 2, 0, 1, 2])
        self.assertEqual(best(2, [0, 1, 2, 0, 1, 2]),
                         ([0, 1, 2, 4], [(2, 1), (4, 0)]))
        for rule in RULES:
            self.assertEqual(lacking(2, [0, 1, 2, 0, 1, 2], rule),
                             [0, 1, 2, 3, 4, 5])

    def test_kinds(self):
        told = worst(2, 3, 4, "hand")
        self.assertIs(type(told), tuple)
        self.assertEqual([type(part) for part in told], [int, list])


class AllRows(unittest.TestCase):
    def check(self, rooms, pages, long):
        for rule in RULES:
            with self.subTest(rooms=rooms, pages=pages, long=long, rule=rule):
                self.assertEqual(worst(rooms, pages, long, rule),
                                 worst_by_models(rooms, pages, long, rule))

    def test_few_rooms_pages_and_asks(self):
        for rooms in (1, 2, 3):
            for pages, longest in ((1, 6), (2, 6), (3, 6), (4, 5), (5, 4)):
                for long in range(longest + 1):
                    self.check(rooms, pages, long)

    def test_where_there_is_more(self):
        self.check(2, 3, 7)
        self.check(3, 4, 6)
        self.check(4, 5, 5)

    def test_as_many_rows_as_may_be(self):
        for rooms in (1, 2):
            self.check(rooms, 12, 3)
            self.check(rooms, 2, 12)
            self.check(rooms, 8, 4)
        self.check(3, 5, 5)

    def test_eight_rooms(self):
        self.check(8, 8, 4)
        self.check(8, 12, 2)


class LongRows(unittest.TestCase):
    def test_one_page(self):
        for long in (1, 100, 101, 200, 501, 4999, 5000):
            for rule in RULES:
                self.assertEqual(worst(1, 1, long, rule), (0, [0] * long))

    def test_one_page_in_more_rooms(self):
        for rooms in range(2, 9):
            self.assertEqual(worst(rooms, 1, 5000, "hand"), (0, [0] * 5000))


class Refused(unittest.TestCase):
    def test_too_many(self):
        for pages, long in TOO_MANY:
            with self.subTest(pages=pages, long=long):
                for rule in RULES:
                    check_too_many(self, worst, 2, pages, long, rule)

    def test_bad_pages(self):
        for pages in BAD_PAGES:
            for long in (0, 1, 3):
                for rule in RULES:
                    check_bad_row(self, 0, worst, 2, pages, long, rule)

    def test_bad_lengths(self):
        for long in BAD_LENGTHS:
            for pages in (1, 3, 12):
                for rule in RULES:
                    check_bad_row(self, 0, worst, 2, pages, long, rule)

    def test_bad_rooms(self):
        for rooms in BAD_ROOMS:
            for rule in RULES:
                check_bad_rooms(self, worst, rooms, 2, 3, rule)

    def test_bad_rules(self):
        for rule in ("", "Hand", "hand ", "last", "best", "unseen first"):
            check_bad_rule(self, worst, 2, 2, 3, rule)
            check_bad_rule(self, worst, 2, 1, 0, rule)
            check_bad_rule(self, worst, 2, 1, 5000, rule)

    def test_good_counts_of_pages(self):
        for pages in range(1, 13):
            self.assertEqual(worst(2, pages, 2, "hand"), (0, [0, 0]))


class SeveralWrong(unittest.TestCase):
    def test_rooms_come_first(self):
        for rooms in BAD_ROOMS:
            for rule in ("hand", "no rule"):
                check_bad_rooms(self, worst, rooms, 0, 3, rule)
                check_bad_rooms(self, worst, rooms, 13, -1, rule)
                check_bad_rooms(self, worst, rooms, 2, 13, rule)
                check_bad_rooms(self, worst, rooms, 2, FORTY_FIGURES, rule)

    def test_pages_and_length_come_ahead_of_too_many(self):
        for rule in ("hand", "no rule"):
            for pages in BAD_PAGES:
                for long in (3, 13, 5001, FORTY_FIGURES, -1):
                    check_bad_row(self, 0, worst, 2, pages, long, rule)
            for long in BAD_LENGTHS:
                check_bad_row(self, 0, worst, 2, 12, long, rule)

    def test_too_many_comes_ahead_of_the_rule(self):
        for pages, long in TOO_MANY:
            check_too_many(self, worst, 2, pages, long, "no rule")


if __name__ == "__main__":
    unittest.main()
