"""Promise 6: the best, which knows all asks ahead."""

import unittest

from clockhand.best import best
from clockhand.rules import lacking
from models import best_by_search, fewest_lacks, mixed_rows, small_rows

RULES = ("hand", "unseen", "first")


class ByHand(unittest.TestCase):
    def check(self, rooms, row, lacks, gone):
        self.assertEqual(best(rooms, row), (lacks, gone))

    def test_no_asks(self):
        for rooms in range(1, 9):
            self.check(rooms, [], [], [])

    def test_one_page_only(self):
        for rooms in (1, 8):
            self.check(rooms, [11] * 100, [0], [])

    def test_as_many_pages_as_rooms(self):
        self.check(3, [2, 0, 0, 1, 2, 1, 0], [0, 1, 3], [])

    def test_farthest_next_ask(self):
        # For 3, at place 3, the next asks are at 4, 5 and 9: 2 goes. For 4,
        # at place 6, they are at 7, 8 and 10: 3 goes. For 2, at place 9, 0
        # and 1 come no more; so 0 goes, and then, for 3, 1 goes ahead of 2.
        self.check(3, [0, 1, 2, 3, 0, 1, 4, 0, 1, 2, 3, 4],
                   [0, 1, 2, 3, 6, 9, 10],
                   [(3, 2), (6, 3), (9, 0), (10, 1)])

    def test_the_next_ask_counts_not_the_last_one(self):
        # For 2, at place 2, page 0 comes next at 3 and last at 7, page 1
        # comes next at 4 and last at 4: 1 goes.
        self.check(2, [0, 1, 2, 0, 1, 0, 1, 0], [0, 1, 2, 4], [(2, 1), (4, 2)])

    def test_none_at_all_is_farthest(self):
        self.check(2, [0, 1, 2, 0], [0, 1, 2], [(2, 1)])
        self.check(2, [0, 1, 2, 1], [0, 1, 2], [(2, 0)])
        self.check(2, [0, 9, 5, 5, 5, 5, 0], [0, 1, 2], [(2, 9)])

    def test_of_several_that_come_no_more_the_least_goes(self):
        self.check(2, [5, 3, 7], [0, 1, 2], [(2, 3)])
        self.check(2, [3, 5, 7], [0, 1, 2], [(2, 3)])
        self.check(2, [11, 2, 0], [0, 1, 2], [(2, 2)])
        self.check(3, [10, 9, 11, 1, 11], [0, 1, 2, 3], [(3, 9)])
        self.check(3, [4, 8, 6, 9, 8, 1, 0],
                   [0, 1, 2, 3, 5, 6], [(3, 4), (5, 6), (6, 1)])

    def test_a_page_that_came_again_goes_again(self):
        self.check(2, [0, 1, 2, 1, 0, 2],
                   [0, 1, 2, 4], [(2, 0), (4, 1)])
        self.check(2, [0, 1, 2, 1, 0, 1, 2, 1, 3],
                   [0, 1, 2, 4, 6, 8], [(2, 0), (4, 2), (6, 0), (8, 1)])

    def test_one_room(self):
        self.check(1, [0, 0, 1, 1, 0, 11],
                   [0, 2, 4, 5], [(2, 0), (4, 1), (5, 0)])

    def test_eight_rooms(self):
        # For 8 page 0 goes, the last to come next; when it comes, at 16, no
        # page comes any more, and 1 is the least.
        row = list(range(9)) + [1, 2, 3, 4, 5, 6, 7, 0]
        self.check(8, row, [0, 1, 2, 3, 4, 5, 6, 7, 8, 16],
                   [(8, 0), (16, 1)])

    def test_full_row_in_eight_rooms(self):
        # Twelve pages in turn: the page asked for last comes next last, so it
        # goes, four times one behind the other; then seven pages are there.
        # From place 96 on no page there comes any more.
        row = [k % 12 for k in range(100)]
        late = [8 + 11 * turn + k for turn in range(9) for k in range(4)]
        gone = [(place, (place - 1) % 12) for place in late if place < 96]
        self.check(8, row, list(range(8)) + late,
                   gone + [(96, 4), (97, 0), (98, 1), (99, 2)])

    def test_full_row_in_one_room(self):
        row = [k % 12 for k in range(100)]
        self.check(1, row, list(range(100)),
                   [(k, (k - 1) % 12) for k in range(1, 100)])

    def test_kinds(self):
        told = best(1, [0, 1])
        self.assertIs(type(told), tuple)
        self.assertEqual([type(part) for part in told], [list, list])
        self.assertIs(type(told[1][0]), tuple)


class NoWayMakesFewer(unittest.TestCase):
    def check(self, rooms, row):
        lacks, gone = best(rooms, row)
        self.assertEqual((lacks, gone), best_by_search(rooms, row))
        self.assertEqual(len(lacks), fewest_lacks(rooms, row))
        self.check_way(rooms, row, lacks, gone)

    def check_way(self, rooms, row, lacks, gone):
        """Check that the lacks are those of the pages that are let go."""
        leaving = dict(gone)
        there = set()
        for place, page in enumerate(row):
            self.assertEqual(page not in there, place in lacks)
            full = len(there) == rooms
            self.assertEqual(place in leaving, place in lacks and full)
            if place in leaving:
                there.remove(leaving[place])
            there.add(page)

    def test_small_rows(self):
        for rooms in (1, 2, 3):
            for row in small_rows(4, 6):
                self.check(rooms, row)

    def test_longer_rows_of_three_pages(self):
        for rooms in (1, 2):
            for row in small_rows(3, 8):
                self.check(rooms, row)

    def test_mixed_rows(self):
        for rooms in range(1, 9):
            for row in mixed_rows(6, 12, 20):
                self.check(rooms, row)
        for rooms in (1, 2, 3):
            for row in mixed_rows(6, 6, 100):
                self.check(rooms, row)


class AgainstRules(unittest.TestCase):
    def check(self, rooms, row):
        lacks = len(best(rooms, row)[0])
        for rule in RULES:
            self.assertLessEqual(lacks, len(lacking(rooms, row, rule)))
        if rooms < 8:
            self.assertLessEqual(len(best(rooms + 1, row)[0]), lacks)

    def test_small_rows(self):
        for rooms in (1, 2, 3):
            for row in small_rows(4, 6):
                self.check(rooms, row)

    def test_full_rows(self):
        for rooms in range(1, 9):
            for pages in (5, 9, 12):
                for row in mixed_rows(10, pages, 100):
                    self.check(rooms, row)

    def test_where_more_rooms_lack_more_by_first(self):
        row = [1, 2, 3, 4, 1, 2, 5, 1, 2, 3, 4, 5]
        self.assertEqual(len(best(3, row)[0]), 7)
        self.assertEqual(len(best(4, row)[0]), 6)


if __name__ == "__main__":
    unittest.main()
