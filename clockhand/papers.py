"""Spells, and papers that show how many lacks there are at the least."""

from clockhand.checks import check_rooms, check_row
from clockhand.errors import BadRow


def spells(row):
    """Tell all spells (begin, end) of a row, by rising ends."""
    check_row(row)
    return find_spells(row)


def shown(rooms, row, places):
    """Tell how many lacks there are at the least by a paper."""
    check_rooms(rooms)
    check_row(row)
    _check_paper(row, places)
    free = [spell for spell in find_spells(row) if not _has_within(spell, places)]
    return len(row) - len(free) - (rooms - 1) * len(places)


def paper(rooms, row):
    """Tell a paper that shows as many lacks as the best has.

    A spell that has no place of a paper within lies between two neighbours of
    the paper, or ahead of its first place, or behind its last. So what a paper
    takes off the asks is a sum over the steps from each place to the next one,
    and the paper that takes off least is found step by step.
    """
    check_rooms(rooms)
    check_row(row)
    ends = dict(find_spells(row))
    # Place 0 is within no spell: it stands for the row's beginning, as the
    # number of asks stands for its end, and neither gets into the paper.
    least = [0]
    ahead = [0]
    for stop in range(1, len(row) + 1):
        cost, place = _cheapest_step(stop, ends, least)
        least.append(cost + rooms - 1)
        ahead.append(place)
    return _way_back(ahead)


def find_spells(row):
    """Tell the spells of pages of any number; nothing is checked."""
    latest = {}
    found = []
    for place, page in enumerate(row):
        if page in latest:
            found.append((latest[page], place))
        latest[page] = place
    return found


def _check_paper(row, places):
    """Refuse a list that is no rising list of places of the row."""
    before = -1
    for place in places:
        if not before < place < len(row):
            raise BadRow(len(row))
        before = place


def _has_within(spell, places):
    """Tell whether one of the places is within a spell."""
    begin, end = spell
    return any([begin < place < end for place in places])


def _cheapest_step(stop, ends, least):
    """Tell (cost, place) of the cheapest step to stop from a place ahead.

    ends tells the end of each spell by its begin, and least what must be
    taken off up to each place. A step costs the spells from its place to stop.
    """
    free = 0
    costs = []
    for place in reversed(range(stop)):
        if ends.get(place, stop + 1) <= stop:
            free += 1
        costs.append((least[place] + free, place))
    return min(costs)


def _way_back(ahead):
    """Tell the places on the way from the row's beginning to its end."""
    places = []
    place = ahead[-1]
    while place > 0:
        places.append(place)
        place = ahead[place]
    return places[::-1]
