"""The dial: its rooms, their marks, and the hand that goes round."""

from clockhand.checks import check_page, check_rooms, check_row


class Dial:
    """Rooms round a dial, whose hand lets a page go where one lacks."""

    def __init__(self, rooms):
        check_rooms(rooms)
        self._held = [None] * rooms
        self._marks = [False] * rooms
        self._hand = 0
        self._lacks = 0

    def ask(self, page):
        """Ask for a page; tell (lacks, gone, passed)."""
        check_page(page)
        if page in self._held:
            self._marks[self._held.index(page)] = True
            return False, None, []
        self._lacks += 1
        passed = self._pass_marked()
        gone = self._exchange(page)
        return True, gone, passed

    def pages(self):
        """Tell the page of each room, or None."""
        return list(self._held)

    def looked(self):
        """Tell of each room whether it is marked."""
        return list(self._marks)

    def points(self):
        """Tell the room to which the hand points."""
        return self._hand

    def lacked(self):
        """Tell how many lacks there were."""
        return self._lacks

    def _pass_marked(self):
        """Move the hand past the marked rooms, unmark them, and tell them."""
        passed = []
        # Only a room with a page is ever marked, so the mark alone decides.
        # The loop ends: behind a whole round no room is marked.
        while self._marks[self._hand]:
            self._marks[self._hand] = False
            passed.append(self._hand)
            self._go_on()
        return passed

    def _exchange(self, page):
        """Put a page where the hand points; tell the page that was there."""
        gone = self._held[self._hand]
        self._held[self._hand] = page
        self._marks[self._hand] = True
        self._go_on()
        return gone

    def _go_on(self):
        """Move the hand by one room, round the dial."""
        self._hand = (self._hand + 1) % len(self._held)


def told(rooms, row):
    """Tell what a new dial tells of each ask of a row."""
    check_rooms(rooms)
    check_row(row)
    dial = Dial(rooms)
    return [dial.ask(page) for page in row]
