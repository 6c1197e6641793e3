"""The rules by which pages are let go, and the lacks by each of them."""

from clockhand.checks import check_rooms, check_row
from clockhand.errors import BadRule
from clockhand.hands import Dial


def _by_hand(rooms, row):
    """Tell the places of the lacks of a new dial."""
    dial = Dial(rooms)
    return [place for place, page in enumerate(row) if dial.ask(page)[0]]


def _by_unseen(rooms, row):
    """Tell the places of the lacks where the longest unasked page goes."""
    return _by_line(rooms, row, True)


def _by_first(rooms, row):
    """Tell the places of the lacks where the page that came first goes."""
    return _by_line(rooms, row, False)


def _by_line(rooms, row, renewed):
    """Tell the places of the lacks where pages go as they stand in a line.

    The first of the line goes. An ask for a page that is there sends it to
    the line's end if renewed, else it keeps its turn.
    """
    line = []
    lacks = []
    for place, page in enumerate(row):
        if page not in line:
            lacks.append(place)
            if len(line) == rooms:
                line.pop(0)
            line.append(page)
        elif renewed:
            line.remove(page)
            line.append(page)
    return lacks


RULES = {"hand": _by_hand, "unseen": _by_unseen, "first": _by_first}


def check_rule(rule):
    """Refuse a text that names no rule."""
    if rule not in RULES:
        raise BadRule("a rule is hand, unseen or first")


def lacking(rooms, row, rule):
    """Tell the places of all lacks of a row by a rule, rising."""
    check_rooms(rooms)
    check_row(row)
    check_rule(rule)
    return find_lacks(rooms, row, rule)


def find_lacks(rooms, row, rule):
    """Tell what lacking tells, of a row of any length; nothing is checked."""
    by_rule = RULES[rule]
    return by_rule(rooms, row)
