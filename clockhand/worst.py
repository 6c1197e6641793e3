"""The rows on which a rule does worst against the best."""

from clockhand.best import find_best
from clockhand.checks import PAGES, check_rooms
from clockhand.errors import BadRow, TooMany
from clockhand.rules import check_rule, find_lacks

MOST_ROWS = 5000
LONGEST = 5000


def worst(rooms, pages, long, rule):
    """Tell (more, row): the most more lacks than the best's, and where first."""
    check_rooms(rooms)
    _check_size(pages, long)
    check_rule(rule)
    rows = _all_rows(pages, long)
    counts = [_more_lacks(rooms, row, rule) for row in rows]
    most = max(counts)
    return most, rows[counts.index(most)]


def _check_size(pages, long):
    """Refuse what is no count of pages or no length, then too many rows."""
    if not 1 <= pages <= PAGES or long < 0:
        raise BadRow(0)
    if _are_too_many(pages, long):
        raise TooMany("there are too many rows, or they are too long")


def _are_too_many(pages, long):
    """Tell whether there are more rows, or longer ones, than may be."""
    # A length may have forty figures: it is looked at ahead of the count.
    if long > LONGEST:
        return True
    rows = 1
    for _ in range(long):
        rows *= pages
        if rows > MOST_ROWS:
            return True
    return False


def _all_rows(pages, long):
    """Tell all rows of a length, as lists ascend."""
    rows = [[]]
    for _ in range(long):
        rows = [row + [page] for row in rows for page in range(pages)]
    return rows


def _more_lacks(rooms, row, rule):
    """Tell how many more lacks than the best a rule has."""
    lacks, _ = find_best(rooms, row)
    return len(find_lacks(rooms, row, rule)) - len(lacks)
