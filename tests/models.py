"""Slow models of the document, written unlike the program, to compare."""

from itertools import product


def small_rows(pages, longest):
    """Give all rows of the first so many pages, up to a length."""
    for long in range(longest + 1):
        for row in product(range(pages), repeat=long):
            yield list(row)


def told_by_queue(rooms, row):
    """Tell what a dial's asks tell, by a queue in place of a dial.

    The front of the queue is the room to which the hand points.
    """
    queue = [[room, None, False] for room in range(rooms)]
    answers = []
    for page in row:
        found = [cell for cell in queue if cell[1] == page]
        if found:
            found[0][2] = True
            answers.append((False, None, []))
            continue
        passed = []
        while queue[0][1] is not None and queue[0][2]:
            cell = queue.pop(0)
            passed.append(cell[0])
            queue.append([cell[0], cell[1], False])
        room, gone, _ = queue.pop(0)
        queue.append([room, page, True])
        answers.append((True, gone, passed))
    return answers


def lacking_by_search(rooms, row, rule):
    """Tell the lacks by "unseen" or "first", by looking back along the row."""
    there = []
    came = {}
    lacks = []
    for place, page in enumerate(row):
        if page in there:
            continue
        if len(there) == rooms:
            seen = {old: max(at for at in range(place) if row[at] == old)
                    for old in there}
            worth = seen if rule == "unseen" else came
            there.remove(min(there, key=lambda old: worth[old]))
        there.append(page)
        came[page] = place
        lacks.append(place)
    return lacks
