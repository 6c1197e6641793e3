"""Promises 1 and 5: the lacks by each rule."""

import unittest

from clockhand.hands import told
from clockhand.rules import lacking
from models import lacking_by_search, small_rows

RULES = ("hand", "unseen", "first")


class Lacking(unittest.TestCase):
    def check(self, rooms, row, hand, unseen, first):
        self.assertEqual(lacking(rooms, row, "hand"), hand)
        self.assertEqual(lacking(rooms, row, "unseen"), unseen)
        self.assertEqual(lacking(rooms, row, "first"), first)

    def test_all_three_differ(self):
        # For 3, at place 4, "unseen" lets 1 go, the others 0; for 0, at
        # place 6, the hand passes by 1 and lets 2 go, "first" lets 1 go.
        self.check(3, [0, 1, 2, 0, 3, 1, 0, 1],
                   [0, 1, 2, 4, 6], [0, 1, 2, 4, 5], [0, 1, 2, 4, 6, 7])

    def test_unseen_alone_differs(self):
        self.check(3, [0, 1, 2, 0, 3, 0],
                   [0, 1, 2, 4, 5], [0, 1, 2, 4], [0, 1, 2, 4, 5])

    def test_first_alone_differs(self):
        self.check(3, [0, 1, 2, 3, 1, 0, 1],
                   [0, 1, 2, 3, 5], [0, 1, 2, 3, 5], [0, 1, 2, 3, 5, 6])

    def test_a_page_that_came_again_came_later(self):
        # By "first", page 0 comes again at place 3, behind 2: so 2 goes for
        # 3, and 0 is still there at place 5.
        self.check(2, [0, 1, 2, 0, 3, 0, 2],
                   [0, 1, 2, 3, 4, 6], [0, 1, 2, 3, 4, 6],
                   [0, 1, 2, 3, 4, 6])

    def test_more_rooms_may_lack_more_by_first(self):
        row = [1, 2, 3, 4, 1, 2, 5, 1, 2, 3, 4, 5]
        self.assertEqual(lacking(3, row, "first"),
                         [0, 1, 2, 3, 4, 5, 6, 9, 10])
        self.assertEqual(lacking(4, row, "first"),
                         [0, 1, 2, 3, 6, 7, 8, 9, 10, 11])

    def test_no_asks(self):
        for rooms in range(1, 9):
            self.check(rooms, [], [], [], [])

    def test_one_page_only(self):
        for rooms in (1, 8):
            self.check(rooms, [11] * 100, [0], [0], [0])

    def test_one_room(self):
        lacks = [0, 2, 3, 5]
        self.check(1, [0, 0, 1, 0, 0, 2], lacks, lacks, lacks)

    def test_full_row_in_eight_rooms(self):
        every = list(range(100))
        row = [k % 12 for k in range(100)]
        self.check(8, row, every, every, every)

    def test_full_row_of_pages_that_all_have_room(self):
        row = [k % 8 for k in range(100)]
        first_asks = list(range(8))
        self.check(8, row, first_asks, first_asks, first_asks)

    def test_small_rows_against_models(self):
        for rooms in (1, 2, 3):
            for row in small_rows(4, 6):
                self.check_by_models(rooms, row)

    def test_full_rows_against_models(self):
        for rooms in range(1, 9):
            self.check_by_models(
                rooms, [(k * k + k // 3) % 12 for k in range(100)])

    def check_by_models(self, rooms, row):
        self.check(
            rooms, row,
            [place for place, answer in enumerate(told(rooms, row))
             if answer[0]],
            lacking_by_search(rooms, row, "unseen"),
            lacking_by_search(rooms, row, "first"))


class NothingKept(unittest.TestCase):
    def test_the_row_stays_as_it_was_and_may_be_changed_later(self):
        for rule in RULES:
            row = [0, 1, 2, 0, 1]
            lacks = lacking(2, row, rule)
            self.assertEqual(row, [0, 1, 2, 0, 1])
            row.clear()
            self.assertEqual(lacks, [0, 1, 2, 3, 4])

    def test_what_is_told_may_be_changed_and_asked_again(self):
        for rule in RULES:
            row = [0, 1, 1, 2]
            lacks = lacking(2, row, rule)
            self.assertIs(type(lacks), list)
            lacks.append(9)
            lacks[0] = 8
            self.assertEqual(lacking(2, row, rule), [0, 1, 3])
            self.assertEqual(row, [0, 1, 1, 2])


if __name__ == "__main__":
    unittest.main()
