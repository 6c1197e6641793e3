"""What is refused, each kind by a class of its own."""


class PageError(ValueError):
    """Any refusal."""


class BadRooms(PageError):
    """There are fewer rooms than one, or more than eight."""


class BadRow(PageError):
    """A list is no row; place tells where it first goes wrong."""

    def __init__(self, place):
        super().__init__(f"bad at place {place}")
        self.place = place


class BadRule(PageError):
    """A text names no rule."""


class TooMany(PageError):
    """There are more rows than are looked through."""
