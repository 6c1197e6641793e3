"""Promise 1 over the whole program: nothing is kept, all is told anew."""

import copy
import unittest

from clockhand.best import best
from clockhand.hands import Dial, told
from clockhand.papers import paper, shown, spells
from clockhand.rules import lacking
from clockhand.stretches import lacking_in, stretches
from clockhand.worst import worst
from models import mixed_rows, small_rows

RULES = ("hand", "unseen", "first")


def dial_told(rooms, row):
    """Tell all that a dial tells, ask by ask."""
    dial = Dial(rooms)
    return [(dial.ask(page), dial.pages(), dial.looked(), dial.points(),
             dial.lacked()) for page in row]


def all_told(rooms, row):
    """Tell all that the program tells of a row."""
    answers = [dial_told(rooms, row), told(rooms, row), best(rooms, row),
               spells(row), paper(rooms, row), stretches(rooms, row)]
    answers += [shown(rooms, row, list(range(0, len(row), step)))
                for step in (1, 2, 5)]
    for rule in RULES:
        answers += [lacking(rooms, row, rule), lacking_in(rooms, row, rule)]
    return answers


def lists_in(value):
    """Tell all lists within a value, itself too, the innermost first."""
    if not isinstance(value, (list, tuple)):
        return []
    found = [inner for part in value for inner in lists_in(part)]
    return found + [value] if isinstance(value, list) else found


def spoil(value):
    """Change all lists within a value."""
    for found in lists_in(value):
        found.reverse()
        found.append(77)
        found[0] = -5


def check_unlike(test, values):
    """Check that no list stands in two places of the values."""
    marks = [id(found) for found in lists_in(values)]
    test.assertEqual(len(marks), len(set(marks)))


class ToldAnew(unittest.TestCase):
    def check(self, rooms, row, other):
        handed = list(row)
        answers = all_told(rooms, row)
        before = copy.deepcopy(answers)
        self.assertEqual(row, handed)
        spoil(answers)
        self.assertEqual(row, handed)
        spoil(all_told(rooms, other))
        again = all_told(rooms, row)
        self.assertEqual(again, before)
        check_unlike(self, [again, all_told(rooms, row), row])

    def test_small_rows(self):
        for rooms in (1, 2, 3):
            for row in small_rows(3, 4):
                self.check(rooms, row, [0, 1, 2, 3, 0])

    def test_full_rows(self):
        for rooms in range(1, 9):
            for row in mixed_rows(2, 12, 100):
                self.check(rooms, row, row[::-1])

    def test_no_asks(self):
        for rooms in range(1, 9):
            self.check(rooms, [], [4])

    def test_the_row_may_be_changed_later(self):
        for rooms in (1, 2, 3):
            for row in mixed_rows(3, 5, 12):
                answers = all_told(rooms, row)
                before = copy.deepcopy(answers)
                spoil(row)
                self.assertEqual(answers, before)
                row.clear()
                self.assertEqual(answers, before)

    def test_one_list_with_other_asks_later(self):
        row = [0, 1, 2, 0]
        self.assertEqual(best(2, row), ([0, 1, 2], [(2, 1)]))
        self.assertEqual(lacking_in(2, row, "first"), [2, 2])
        row[3] = 1
        self.assertEqual(best(2, row), ([0, 1, 2], [(2, 0)]))
        self.assertEqual(spells(row), [(1, 3)])
        self.assertEqual(lacking_in(2, row, "first"), [2, 1])
        del row[2:]
        self.assertEqual(all_told(2, row), all_told(2, [0, 1]))

    def test_a_paper_stays_as_it_was_and_may_be_changed_later(self):
        row = [0, 1, 2, 0, 1, 2]
        places = [2, 3]
        self.assertEqual(shown(2, row, places), 4)
        self.assertEqual((row, places), ([0, 1, 2, 0, 1, 2], [2, 3]))
        places.append(4)
        self.assertEqual(shown(2, row, places), 3)
        places.clear()
        self.assertEqual(shown(2, row, places), 3)

    def test_a_told_paper_may_be_handed_in_and_changed(self):
        row = [0, 1, 2, 3, 0, 1, 4, 0, 1, 2, 3, 4]
        places = paper(3, row)
        self.assertEqual(shown(3, row, places), 7)
        spoil(places)
        self.assertEqual(shown(3, row, paper(3, row)), 7)


class WorstAnew(unittest.TestCase):
    def test_what_is_told_may_be_changed(self):
        for rule in RULES:
            for rooms, pages, long in ((2, 3, 4), (2, 2, 0), (3, 1, 200)):
                answer = worst(rooms, pages, long, rule)
                before = copy.deepcopy(answer)
                spoil(answer)
                spoil(worst(2, 3, 5, rule))
                again = worst(rooms, pages, long, rule)
                self.assertEqual(again, before)
                self.assertIsNot(again[1], answer[1])

    def test_the_row_that_is_told_may_be_asked(self):
        for rule in RULES:
            more, row = worst(2, 3, 6, rule)
            self.assertEqual(
                len(lacking(2, row, rule)) - len(best(2, row)[0]), more)


if __name__ == "__main__":
    unittest.main()
