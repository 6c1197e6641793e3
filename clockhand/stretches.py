"""Stretches of a row, in each of which no page lacks twice."""

from clockhand.checks import check_rooms, check_row
from clockhand.rules import lacking


def stretches(rooms, row):
    """Tell (begin, end) of each stretch: asks from begin on, ahead of end."""
    check_rooms(rooms)
    check_row(row)
    begins = _begins(rooms, row)
    # An empty row has no begin, and so zip gives it no stretch either.
    ends = begins[1:] + [len(row)]
    return list(zip(begins, ends))


def lacking_in(rooms, row, rule):
    """Tell how many lacks there are in each stretch by a rule."""
    lacks = lacking(rooms, row, rule)
    return [len([place for place in lacks if begin <= place < end])
            for begin, end in stretches(rooms, row)]


def _begins(rooms, row):
    """Tell the places at which the stretches begin."""
    begins = []
    pages = []
    for place, page in enumerate(row):
        if page in pages:
            continue
        if place == 0 or len(pages) == rooms:
            begins.append(place)
            pages = []
        pages.append(page)
    return begins
