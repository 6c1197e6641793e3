"""Promises 1, 3 and 4: the dial, ask by ask."""

import unittest

from clockhand.hands import Dial
from models import told_by_queue


class Asked(unittest.TestCase):
    def follow(self, dial, steps):
        """Ask a dial step by step, and check all that it tells behind each.

        A step: page, answer, pages, looked (a digit a room), points, lacked.
        """
        for page, answer, pages, looked, points, lacked in steps:
            with self.subTest(page=page, lacked=lacked):
                self.assertEqual(dial.ask(page), answer)
                self.check_state(dial, pages, looked, points, lacked)

    def check_state(self, dial, pages, looked, points, lacked):
        self.assertEqual(dial.pages(), pages)
        self.assertEqual(dial.looked(), [mark == "1" for mark in looked])
        self.assertEqual(dial.points(), points)
        self.assertEqual(dial.lacked(), lacked)


class ByHand(Asked):
    def test_new_dials(self):
        for rooms in range(1, 9):
            with self.subTest(rooms=rooms):
                self.check_state(Dial(rooms), [None] * rooms, "0" * rooms,
                                 0, 0)

    def test_three_rooms(self):
        self.follow(Dial(3), [
            (0, (True, None, []), [0, None, None], "100", 1, 1),
            (1, (True, None, []), [0, 1, None], "110", 2, 2),
            (2, (True, None, []), [0, 1, 2], "111", 0, 3),
            # All rooms are marked: the hand goes a whole round.
            (3, (True, 0, [0, 1, 2]), [3, 1, 2], "100", 1, 4),
            (1, (False, None, []), [3, 1, 2], "110", 1, 4),
            (0, (True, 2, [1]), [3, 1, 0], "101", 0, 5),
            (4, (True, 1, [0]), [3, 4, 0], "011", 2, 6),
            (3, (False, None, []), [3, 4, 0], "111", 2, 6),
            # A whole round again, from the last room on.
            (5, (True, 0, [2, 0, 1]), [3, 4, 5], "001", 0, 7),
            (5, (False, None, []), [3, 4, 5], "001", 0, 7),
            (0, (True, 3, []), [0, 4, 5], "101", 1, 8),
            (3, (True, 4, []), [0, 3, 5], "111", 2, 9),
        ])

    def test_ask_for_what_is_there_while_rooms_have_no_page(self):
        self.follow(Dial(3), [
            (7, (True, None, []), [7, None, None], "100", 1, 1),
            (7, (False, None, []), [7, None, None], "100", 1, 1),
            (11, (True, None, []), [7, 11, None], "110", 2, 2),
            (7, (False, None, []), [7, 11, None], "110", 2, 2),
            (0, (True, None, []), [7, 11, 0], "111", 0, 3),
        ])

    def test_one_room(self):
        self.follow(Dial(1), [
            (0, (True, None, []), [0], "1", 0, 1),
            (0, (False, None, []), [0], "1", 0, 1),
            (1, (True, 0, [0]), [1], "1", 0, 2),
            (11, (True, 1, [0]), [11], "1", 0, 3),
            (11, (False, None, []), [11], "1", 0, 3),
            (0, (True, 11, [0]), [0], "1", 0, 4),
        ])

    def test_eight_rooms(self):
        dial = Dial(8)
        for page in range(8):
            rest = 7 - page
            self.follow(dial, [
                (page, (True, None, []),
                 list(range(page + 1)) + [None] * rest,
                 "1" * (page + 1) + "0" * rest, (page + 1) % 8, page + 1)])
        self.follow(dial, [
            (8, (True, 0, [0, 1, 2, 3, 4, 5, 6, 7]),
             [8, 1, 2, 3, 4, 5, 6, 7], "10000000", 1, 9),
            (3, (False, None, []),
             [8, 1, 2, 3, 4, 5, 6, 7], "10010000", 1, 9),
            (9, (True, 1, []), [8, 9, 2, 3, 4, 5, 6, 7], "11010000", 2, 10),
            (10, (True, 2, []), [8, 9, 10, 3, 4, 5, 6, 7], "11110000", 3, 11),
            (11, (True, 4, [3]),
             [8, 9, 10, 3, 11, 5, 6, 7], "11101000", 5, 12),
            (7, (False, None, []),
             [8, 9, 10, 3, 11, 5, 6, 7], "11101001", 5, 12),
            (0, (True, 5, []), [8, 9, 10, 3, 11, 0, 6, 7], "11101101", 6, 13),
            (1, (True, 6, []), [8, 9, 10, 3, 11, 0, 1, 7], "11101111", 7, 14),
            # From the last room on, past the first ones, to room 3.
            (2, (True, 3, [7, 0, 1, 2]),
             [8, 9, 10, 2, 11, 0, 1, 7], "00011110", 4, 15),
        ])

    def test_two_dials_by_turns(self):
        small, large = Dial(1), Dial(2)
        self.follow(small, [(0, (True, None, []), [0], "1", 0, 1)])
        self.follow(large, [(1, (True, None, []), [1, None], "10", 1, 1)])
        self.follow(small, [(1, (True, 0, [0]), [1], "1", 0, 2)])
        self.follow(large, [(0, (True, None, []), [1, 0], "11", 0, 2)])
        self.follow(small, [(1, (False, None, []), [1], "1", 0, 2)])
        self.follow(large, [(2, (True, 1, [0, 1]), [2, 0], "10", 1, 3)])
        self.check_state(small, [1], "1", 0, 2)

    def test_two_like_dials_by_turns(self):
        one, other = Dial(2), Dial(2)
        self.follow(one, [(4, (True, None, []), [4, None], "10", 1, 1)])
        self.check_state(other, [None, None], "00", 0, 0)
        self.follow(other, [(5, (True, None, []), [5, None], "10", 1, 1)])
        self.check_state(one, [4, None], "10", 1, 1)


class AskedOften(Asked):
    def test_five_hundred_asks_in_a_circle(self):
        # Two rooms, pages 0, 1, 2 in turn: none is there when it is asked
        # for. Each second lack finds both rooms marked.
        dial = Dial(2)
        dial.ask(0)
        dial.ask(1)
        for k in range(2, 500):
            gone = (k - 2) % 3
            if k % 2 == 0:
                step = (k % 3, (True, gone, [0, 1]),
                        [k % 3, (k - 1) % 3], "10", 1, k + 1)
            else:
                step = (k % 3, (True, gone, []),
                        [(k - 1) % 3, k % 3], "11", 0, k + 1)
            self.follow(dial, [step])

    def test_one_page_five_hundred_times(self):
        dial = Dial(4)
        self.assertEqual(dial.ask(6), (True, None, []))
        for _ in range(499):
            self.assertEqual(dial.ask(6), (False, None, []))
        self.check_state(dial, [6, None, None, None], "1000", 1, 1)

    def test_hundreds_of_mixed_asks_against_a_model(self):
        for rooms in range(1, 9):
            row = [(k * k + k // 5 + k % 7 * rooms) % 12 for k in range(500)]
            dial = Dial(rooms)
            answers = told_by_queue(rooms, row)
            self.assertEqual([dial.ask(page) for page in row], answers)
            self.assertEqual(dial.lacked(),
                             sum(answer[0] for answer in answers))


class KindsOfValues(unittest.TestCase):
    def test_kinds(self):
        dial = Dial(2)
        for page in (0, 0, 1, 2, 2):
            answer = dial.ask(page)
            self.assertIs(type(answer), tuple)
            self.assertEqual(len(answer), 3)
            self.assertIs(type(answer[0]), bool)
            self.assertIs(type(answer[2]), list)
        self.assertIs(type(dial.pages()), list)
        self.assertIs(type(dial.looked()), list)
        self.assertEqual([type(mark) for mark in dial.looked()], [bool] * 2)
        self.assertIs(type(dial.points()), int)
        self.assertIs(type(dial.lacked()), int)


class NewEachTime(Asked):
    def test_what_is_told_may_be_changed(self):
        dial = Dial(2)
        for page in (0, 1):
            dial.ask(page)[2].append(9)
        dial.pages()[0] = 7
        dial.pages().clear()
        dial.looked()[1] = False
        dial.looked().append(True)
        self.check_state(dial, [0, 1], "11", 0, 2)
        lacks, gone, passed = dial.ask(2)
        self.assertEqual((lacks, gone, passed), (True, 0, [0, 1]))
        passed.clear()
        self.check_state(dial, [2, 1], "10", 1, 3)
        self.assertEqual(dial.ask(2), (False, None, []))
        dial.ask(2)[2].append(1)
        self.assertEqual(dial.ask(2), (False, None, []))
        self.assertEqual(Dial(2).ask(2), (True, None, []))

    def test_what_was_told_stays(self):
        dial = Dial(2)
        pages, looked, answer = dial.pages(), dial.looked(), dial.ask(0)
        dial.ask(1)
        dial.ask(2)
        self.assertEqual(pages, [None, None])
        self.assertEqual(looked, [False, False])
        self.assertEqual(answer, (True, None, []))

    def test_telling_changes_nothing(self):
        dial = Dial(2)
        dial.ask(5)
        for _ in range(3):
            self.check_state(dial, [5, None], "10", 1, 1)


if __name__ == "__main__":
    unittest.main()
