"""Promises 7 and 8: spells, what a paper shows, and the paper of the best."""

import unittest

from clockhand.best import best
from clockhand.papers import paper, shown, spells
from models import (all_papers, mixed_row, mixed_rows, shown_by_counting,
                    small_rows, spells_by_pairs)
from refusals import FORTY_FIGURES, check_bad_row


class Spells(unittest.TestCase):
    def test_by_hand(self):
        self.assertEqual(spells([0, 1, 0, 0, 2, 1, 0]),
                         [(0, 2), (2, 3), (1, 5), (3, 6)])
        self.assertEqual(spells([0, 1, 2, 2, 1, 0]), [(2, 3), (1, 4), (0, 5)])
        self.assertEqual(spells([11, 10, 11, 10]), [(0, 2), (1, 3)])

    def test_no_spells(self):
        self.assertEqual(spells([]), [])
        self.assertEqual(spells([7]), [])
        self.assertEqual(spells(list(range(12))), [])

    def test_full_rows(self):
        self.assertEqual(spells([4] * 100), [(k, k + 1) for k in range(99)])
        self.assertEqual(spells([k % 12 for k in range(100)]),
                         [(k, k + 12) for k in range(88)])

    def test_by_pairs(self):
        for row in small_rows(4, 6):
            self.assertEqual(spells(row), spells_by_pairs(row))
        for row in mixed_rows(10, 12, 100):
            self.assertEqual(spells(row), spells_by_pairs(row))

    def test_kinds(self):
        self.assertIs(type(spells([1, 1])), list)
        self.assertIs(type(spells([1, 1])[0]), tuple)


class Shown(unittest.TestCase):
    def test_by_hand(self):
        # Its spells: (0, 3), (1, 4), (2, 5).
        row = [0, 1, 2, 0, 1, 2]
        for rooms, places, least in (
                (2, [], 3), (2, [0], 2), (2, [1], 3), (2, [2], 4),
                (2, [3], 4), (2, [4], 3), (2, [5], 2), (2, [2, 3], 4),
                (2, [1, 4], 3), (2, [0, 1, 2, 3, 4, 5], 0),
                (3, [], 3), (3, [2], 3), (3, [2, 3], 2),
                (1, [], 3), (1, [2], 5), (1, [0, 1, 2, 3, 4, 5], 6),
                (8, [], 3), (8, [2], -2)):
            with self.subTest(rooms=rooms, places=places):
                self.assertEqual(shown(rooms, row, places), least)

    def test_a_spell_has_neither_its_begin_nor_its_end_within(self):
        row = [0, 1, 0]
        self.assertEqual(shown(2, row, [0]), 1)
        self.assertEqual(shown(2, row, [1]), 2)
        self.assertEqual(shown(2, row, [2]), 1)
        self.assertEqual(shown(2, row, [0, 2]), 0)

    def test_a_spell_without_places_at_all(self):
        self.assertEqual(shown(1, [3, 3], [0, 1]), 1)
        self.assertEqual(shown(2, [3, 3], [0, 1]), -1)

    def test_empty_paper_shows_how_many_pages_there_are(self):
        for rooms in range(1, 9):
            for row in mixed_rows(5, 12, 100):
                self.assertEqual(shown(rooms, row, []), len(set(row)))

    def test_paper_of_every_place(self):
        row = [k % 12 for k in range(100)]
        for rooms in range(1, 9):
            self.assertEqual(shown(rooms, row, list(range(100))),
                             100 - 100 * (rooms - 1))
            self.assertEqual(shown(rooms, [5] * 100, list(range(100))),
                             1 - 100 * (rooms - 1))

    def test_no_asks(self):
        for rooms in range(1, 9):
            self.assertEqual(shown(rooms, [], []), 0)

    def test_by_counting(self):
        for rooms in (1, 2, 5):
            for row in small_rows(3, 5):
                for places in all_papers(row):
                    self.assertEqual(shown(rooms, row, places),
                                     shown_by_counting(rooms, row, places))
        for rooms in range(1, 9):
            for row in mixed_rows(4, 12, 100):
                places = sorted(set(mixed_row(rooms, 100, 9)))
                self.assertEqual(shown(rooms, row, places),
                                 shown_by_counting(rooms, row, places))


class WrongPapers(unittest.TestCase):
    def check(self, row, places):
        with self.subTest(row=row, places=places):
            for rooms in (1, 3, 8):
                handed = list(places)
                check_bad_row(self, len(row), shown, rooms, row, places)
                self.assertEqual(places, handed)

    def test_wrong_papers(self):
        row = [0, 1, 2, 0, 1]
        for places in (
                [-1], [-1, 0], [-5], [5], [6], [0, 5], [0, 1, 2, 3, 4, 5],
                [1, 1], [0, 0], [4, 4], [0, 2, 2, 3], [3, 2], [1, 0],
                [0, 1, 2, 4, 3], [2, 3, 1], [0, -1], [3, -1], [5, 4], [12],
                [FORTY_FIGURES], [0, FORTY_FIGURES], [-FORTY_FIGURES],
                [1, -FORTY_FIGURES], [0] * 200, list(range(200))):
            self.check(row, places)

    def test_no_asks_have_no_places(self):
        for places in ([0], [-1], [0, 1], [1], [100]):
            self.check([], places)

    def test_one_ask(self):
        for places in ([1], [-1], [0, 0], [0, 1]):
            self.check([7], places)

    def test_full_row(self):
        row = [k % 12 for k in range(100)]
        every = list(range(100))
        for places in ([100], [99, 100], [99, 99], every + [100],
                       every + [99], every[::-1], every + every):
            self.check(row, places)

    def test_each_place_of_a_row_alone_is_a_paper(self):
        row = [k % 3 for k in range(100)]
        for place in range(100):
            self.assertEqual(shown(1, row, [place]),
                             shown_by_counting(1, row, [place]))

    def test_a_refused_paper_changes_nothing(self):
        row = [0, 1, 2, 0, 1, 2]
        self.check(row, [2, 2])
        self.assertEqual(shown(2, row, [2]), 4)


class Papers(unittest.TestCase):
    def check(self, rooms, row):
        places = paper(rooms, row)
        self.assertIs(type(places), list)
        self.assertEqual(places, sorted(set(places)))
        self.assertTrue(all(0 <= place < len(row) for place in places))
        lacks = len(best(rooms, row)[0])
        self.assertEqual(shown(rooms, row, places), lacks)
        self.assertEqual(shown_by_counting(rooms, row, places), lacks)

    def test_no_asks(self):
        for rooms in range(1, 9):
            self.assertEqual(paper(rooms, []), [])

    def test_rows_of_one_page(self):
        for rooms in (1, 2, 8):
            for many in (1, 2, 100):
                self.check(rooms, [6] * many)

    def test_small_rows(self):
        for rooms in (1, 2, 3, 4):
            for row in small_rows(4, 6):
                self.check(rooms, row)
        for row in small_rows(3, 8):
            self.check(2, row)

    def test_longer_rows(self):
        for rooms in range(1, 9):
            for pages in (3, 9, 12):
                for long in (12, 40, 100):
                    for row in mixed_rows(3, pages, long):
                        self.check(rooms, row)

    def test_pages_in_turn(self):
        for rooms in range(1, 9):
            for pages in range(1, 13):
                self.check(rooms, [k % pages for k in range(100)])

    def test_no_paper_shows_more_than_the_best_lacks(self):
        for rooms in (1, 2, 3):
            for row in small_rows(3, 6):
                self.check_all_papers(rooms, row)
            for row in mixed_rows(4, 5, 9):
                self.check_all_papers(rooms, row)

    def check_all_papers(self, rooms, row):
        most = max(shown(rooms, row, places) for places in all_papers(row))
        self.assertEqual(most, len(best(rooms, row)[0]))


if __name__ == "__main__":
    unittest.main()
