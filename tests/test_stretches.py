"""Promises 9 and 10: stretches, and the lacks in each of them."""

import unittest

from clockhand.best import best
from clockhand.rules import lacking
from clockhand.stretches import lacking_in, stretches
from models import (lacking_by_models, mixed_rows, small_rows,
                    stretches_by_ends)

RULES = ("hand", "unseen", "first")


def many_rows():
    """Give (rooms, row) of many rows, small and full ones."""
    for rooms in (1, 2, 3):
        for row in small_rows(4, 6):
            yield rooms, row
    for rooms in range(1, 9):
        for pages in (3, 9, 12):
            for row in mixed_rows(6, pages, 100):
                yield rooms, row


class Stretches(unittest.TestCase):
    def test_by_hand(self):
        row = [0, 1, 0, 2, 1, 1, 0, 3]
        self.assertEqual(stretches(1, row), [
            (0, 1), (1, 2), (2, 3), (3, 4), (4, 6), (6, 7), (7, 8)])
        self.assertEqual(stretches(2, row), [(0, 3), (3, 6), (6, 8)])
        self.assertEqual(stretches(3, row), [(0, 7), (7, 8)])
        self.assertEqual(stretches(4, row), [(0, 8)])
        self.assertEqual(stretches(8, row), [(0, 8)])

    def test_a_stretch_begins_anew_with_pages_of_the_one_ahead(self):
        self.assertEqual(stretches(2, [0, 1, 2, 0, 1, 2]),
                         [(0, 2), (2, 4), (4, 6)])
        self.assertEqual(stretches(2, [0, 1, 2, 1, 0]), [(0, 2), (2, 4), (4, 5)])

    def test_no_asks(self):
        for rooms in range(1, 9):
            self.assertEqual(stretches(rooms, []), [])
            for rule in RULES:
                self.assertEqual(lacking_in(rooms, [], rule), [])

    def test_no_more_pages_than_rooms(self):
        for rooms in range(1, 9):
            row = [k % rooms for k in range(100)]
            self.assertEqual(stretches(rooms, row), [(0, 100)])
            for rule in RULES:
                self.assertEqual(lacking_in(rooms, row, rule), [rooms])

    def test_full_rows(self):
        row = [k % 12 for k in range(100)]
        self.assertEqual(stretches(8, row),
                         [(k, min(k + 8, 100)) for k in range(0, 100, 8)])
        self.assertEqual(stretches(1, row), [(k, k + 1) for k in range(100)])
        for rule in RULES:
            self.assertEqual(lacking_in(8, row, rule), [8] * 12 + [4])

    def test_like_a_model(self):
        for rooms, row in many_rows():
            self.assertEqual(stretches(rooms, row),
                             stretches_by_ends(rooms, row))

    def test_ask_by_ask(self):
        for rooms, row in many_rows():
            parts = stretches(rooms, row)
            asks = [place for begin, end in parts
                    for place in range(begin, end)]
            self.assertEqual(asks, list(range(len(row))))
            for begin, end in parts:
                self.assertLess(begin, end)
                self.assertLessEqual(len(set(row[begin:end])), rooms)
                if end < len(row):
                    self.assertEqual(len(set(row[begin:end + 1])), rooms + 1)

    def test_kinds(self):
        self.assertIs(type(stretches(1, [0, 1])), list)
        self.assertIs(type(stretches(1, [0, 1])[0]), tuple)
        self.assertIs(type(lacking_in(1, [0, 1], "hand")), list)
        self.assertIs(type(lacking_in(1, [0, 1], "hand")[0]), int)


class LackingIn(unittest.TestCase):
    def test_by_hand(self):
        # The stretches: [0, 1, 0], [2, 1, 1], [0, 3]. For 2 "unseen" lets 1
        # go, the others 0; so by them 1 is there in the second stretch.
        row = [0, 1, 0, 2, 1, 1, 0, 3]
        self.assertEqual(lacking_in(2, row, "unseen"), [2, 2, 2])
        self.assertEqual(lacking_in(2, row, "first"), [2, 1, 2])
        self.assertEqual(lacking_in(2, row, "hand"), [2, 1, 2])

    def test_a_stretch_at_the_end(self):
        # For 2, at place 3, "unseen" alone lets 1 go, which comes next.
        row = [0, 1, 0, 2, 1, 3]
        self.assertEqual(stretches(2, row), [(0, 3), (3, 5), (5, 6)])
        self.assertEqual(lacking_in(2, row, "first"), [2, 1, 1])
        self.assertEqual(lacking_in(2, row, "unseen"), [2, 2, 1])
        self.assertEqual(lacking_in(2, row, "hand"), [2, 1, 1])

    def test_a_stretch_with_no_lack(self):
        # For 4, at place 5, "first" lets 1 go, the others 2; for 2, at place
        # 6, "unseen" lets 3 go, the hand 1.
        row = [0, 1, 2, 3, 1, 4, 2, 3, 4]
        self.assertEqual(stretches(3, row), [(0, 3), (3, 6), (6, 9)])
        self.assertEqual(lacking_in(3, row, "first"), [3, 2, 0])
        self.assertEqual(lacking_in(3, row, "hand"), [3, 2, 1])
        self.assertEqual(lacking_in(3, row, "unseen"), [3, 2, 2])

    def test_ask_by_ask(self):
        for rooms, row in many_rows():
            parts = stretches_by_ends(rooms, row)
            for rule in RULES:
                lacks = lacking_by_models(rooms, row, rule)
                counts = [sum(place in lacks for place in range(begin, end))
                          for begin, end in parts]
                self.assertEqual(lacking_in(rooms, row, rule), counts)

    def test_sums(self):
        for rooms, row in many_rows():
            for rule in RULES:
                self.assertEqual(sum(lacking_in(rooms, row, rule)),
                                 len(lacking(rooms, row, rule)))


class WhatStretchesShow(unittest.TestCase):
    def test_no_page_lacks_twice_in_a_stretch(self):
        for rooms, row in many_rows():
            parts = stretches(rooms, row)
            for rule in RULES:
                lacks = lacking(rooms, row, rule)
                for (begin, end), many in zip(
                        parts, lacking_in(rooms, row, rule), strict=True):
                    pages = [row[place] for place in lacks
                             if begin <= place < end]
                    self.assertEqual(len(pages), len(set(pages)))
                    self.assertEqual(many, len(pages))
                    self.assertLessEqual(many, rooms)

    def test_the_best_has_no_fewer_lacks_than_there_are_stretches(self):
        for rooms, row in many_rows():
            many = len(stretches(rooms, row))
            lacks = len(best(rooms, row)[0])
            self.assertGreaterEqual(lacks, many)
            for rule in RULES:
                self.assertLessEqual(len(lacking(rooms, row, rule)),
                                     lacks * rooms)


if __name__ == "__main__":
    unittest.main()
