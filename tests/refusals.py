"""What the tests of refusals share."""

from clockhand.errors import (BadRooms, BadRow, BadRule, PageError, TooMany)

KINDS = (BadRooms, BadRow, BadRule, TooMany)
FORTY_FIGURES = 10 ** 39
BAD_ROOMS = (0, -1, 9, FORTY_FIGURES, -FORTY_FIGURES)
BAD_PAGES = (-1, 12, FORTY_FIGURES, -FORTY_FIGURES)


def refusal(test, kind, call, *handed):
    """Check that a call is refused by just this kind; give the refusal."""
    with test.assertRaises(PageError) as caught:
        call(*handed)
    refused = caught.exception
    test.assertIs(type(refused), kind)
    test.assertIsInstance(refused, ValueError)
    for other in KINDS:
        test.assertEqual(isinstance(refused, other), other is kind)
    return refused


def check_bad_rooms(test, call, *handed):
    refusal(test, BadRooms, call, *handed)


def check_bad_row(test, place, call, *handed):
    test.assertEqual(refusal(test, BadRow, call, *handed).place, place)


def check_bad_rule(test, call, *handed):
    refusal(test, BadRule, call, *handed)


def check_too_many(test, call, *handed):
    refusal(test, TooMany, call, *handed)


def bad_rows():
    """Tell rows that are refused, each with the place to be told."""
    cases = []
    for bad in BAD_PAGES:
        cases += [([bad], 0), ([bad, 0, 1], 0), ([0, bad, 1], 1),
                  ([0, 1, bad], 2), ([0, bad, bad], 1),
                  ([3] * 99 + [bad], 99),
                  ([3] * 100 + [bad], 100),
                  ([3] * 50 + [bad] + [3] * 50, 50),
                  ([bad] + [3] * 100, 0),
                  ([3] * 99 + [bad] + [3], 99),
                  ([3] * 150 + [bad], 100)]
    cases += [([3] * 101, 100), ([3] * 200, 100),
              ([k % 12 for k in range(101)], 100)]
    return cases
