"""Checks of what is handed in; each refuses, or does nothing."""

from clockhand.errors import BadRooms, BadRow

MOST_ROOMS = 8
PAGES = 12
MOST_ASKS = 100


def check_rooms(rooms):
    """Refuse a number of rooms that a dial cannot have."""
    if not 1 <= rooms <= MOST_ROOMS:
        raise BadRooms("there are one to eight rooms")


def is_page(page):
    """Tell whether a number is a page."""
    return 0 <= page < PAGES


def check_page(page):
    """Refuse what is no page, as a row of this one ask."""
    if not is_page(page):
        raise BadRow(0)


def check_row(row):
    """Refuse a list that is no row, at its first bad ask."""
    for place, page in enumerate(row):
        if place == MOST_ASKS or not is_page(page):
            raise BadRow(place)
