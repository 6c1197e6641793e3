"""The best: who knows all asks ahead, and lets pages go by them."""

from clockhand.checks import check_rooms, check_row
from clockhand.papers import find_spells


def best(rooms, row):
    """Tell (lacks, gone): places of lacks, and (place, page) of pages let go."""
    check_rooms(rooms)
    check_row(row)
    return find_best(rooms, row)


def find_best(rooms, row):
    """Tell what best tells, of a row of any length; nothing is checked."""
    next_asks = dict(find_spells(row))
    there = {}
    lacks = []
    gone = []
    for place, page in enumerate(row):
        if page not in there:
            lacks.append(place)
            if len(there) == rooms:
                leaving = _farthest(there)
                gone.append((place, leaving))
                del there[leaving]
        # No next ask at all is farther than each place of the row.
        there[page] = next_asks.get(place, len(row))
    return lacks, gone


def _farthest(there):
    """Tell the page whose next ask is farthest, of several the least page."""
    farthest = max(there.values())
    return min([page for page in there if there[page] == farthest])
