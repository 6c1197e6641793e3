"""Promises 1, 2 and 4: told, over whole rows."""

import unittest

from clockhand.hands import Dial, told
from models import small_rows, told_by_queue


class Told(unittest.TestCase):
    def test_no_asks(self):
        for rooms in range(1, 9):
            self.assertEqual(told(rooms, []), [])

    def test_three_rooms(self):
        self.assertEqual(told(3, [0, 1, 2, 3, 1, 0, 4, 3, 5]), [
            (True, None, []),
            (True, None, []),
            (True, None, []),
            (True, 0, [0, 1, 2]),
            (False, None, []),
            (True, 2, [1]),
            (True, 1, [0]),
            (False, None, []),
            (True, 0, [2, 0, 1]),
        ])

    def test_one_room(self):
        self.assertEqual(told(1, [11, 11, 0, 11]), [
            (True, None, []), (False, None, []),
            (True, 11, [0]), (True, 0, [0])])

    def test_full_row_in_eight_rooms(self):
        # Twelve pages in turn: none is there when it is asked for again, so
        # the hand goes round, and finds all marked when it is at room 0.
        row = [k % 12 for k in range(100)]
        circle = list(range(8))
        self.assertEqual(told(8, row), [
            (True, (k - 8) % 12 if k >= 8 else None,
             circle if k >= 8 and k % 8 == 0 else [])
            for k in range(100)])

    def test_rows_with_one_page_only(self):
        for rooms in (1, 5, 8):
            self.assertEqual(told(rooms, [4] * 100),
                             [(True, None, [])] + [(False, None, [])] * 99)

    def test_fewer_pages_than_rooms(self):
        self.assertEqual(
            [answer[:2] for answer in told(8, [0, 1, 2, 0, 2, 1])],
            [(True, None)] * 3 + [(False, None)] * 3)

    def test_new_dial_each_time(self):
        self.assertEqual(told(2, [3]), [(True, None, [])])
        self.assertEqual(told(2, [3]), [(True, None, [])])

    def test_like_a_dial_and_like_a_model(self):
        for rooms in (1, 2, 3):
            for row in small_rows(4, 6):
                dial = Dial(rooms)
                answers = told(rooms, row)
                self.assertEqual(answers, [dial.ask(page) for page in row])
                self.assertEqual(answers, told_by_queue(rooms, row))

    def test_a_page_goes_only_where_one_lacks_and_all_rooms_are_full(self):
        for rooms in (2, 3):
            for row in small_rows(4, 6):
                there = []
                for page, (lacks, gone, _) in zip(row, told(rooms, row)):
                    self.assertEqual(lacks, page not in there)
                    full = len(there) == rooms
                    self.assertEqual(gone is not None, lacks and full)
                    if gone is not None:
                        there.remove(gone)
                    if lacks:
                        there.append(page)


class NothingKept(unittest.TestCase):
    def test_the_row_stays_as_it_was(self):
        row = [0, 1, 2, 0, 3]
        told(2, row)
        self.assertEqual(row, [0, 1, 2, 0, 3])

    def test_the_row_may_be_changed_later(self):
        row = [0, 1, 2]
        answers = told(2, row)
        row[0] = 5
        row.clear()
        self.assertEqual(answers, [
            (True, None, []), (True, None, []), (True, 0, [0, 1])])

    def test_what_is_told_may_be_changed(self):
        row = [0, 1, 0, 2]
        expected = [(True, None, []), (True, None, []), (False, None, []),
                    (True, 0, [0, 1])]
        answers = told(2, row)
        for answer in answers:
            answer[2].append(7)
        self.assertEqual([answer[2] for answer in answers],
                         [[7], [7], [7], [0, 1, 7]])
        answers.clear()
        self.assertEqual(told(2, row), expected)
        self.assertEqual(row, [0, 1, 0, 2])

    def test_kinds(self):
        answers = told(1, [0, 1, 1])
        self.assertIs(type(answers), list)
        self.assertEqual([type(answer) for answer in answers], [tuple] * 3)


if __name__ == "__main__":
    unittest.main()
