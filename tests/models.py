"""Slow models of the document, written unlike the program, to compare."""

from itertools import combinations, product


def small_rows(pages, longest):
    """Give all rows of the first so many pages, up to a length."""
    for long in range(longest + 1):
        for row in product(range(pages), repeat=long):
            yield list(row)


def mixed_row(start, pages, long):
    """Tell a row that looks like chance, the same one each time."""
    row = []
    number = start
    for _ in range(long):
        number = (number * 1103515245 + 12345) % 2 ** 31
        row.append(number // 2 ** 16 % pages)
    return row


def mixed_rows(many, pages, long):
    """Give rows that look like chance, the same ones each time."""
    for start in range(many):
        yield mixed_row(start * 7919 + 1, pages, long)


def told_by_queue(rooms, row):
    """Tell what a dial's asks tell, by a queue in place of a dial.

    The front of the queue is the room to which the hand points.
    """
    queue = [[room, None, False] for room in range(rooms)]
    answers = []
    for page in row:
        found = [cell for cell in queue if cell[1] == page]
        if found:
            found[0][2] = True
            answers.append((False, None, []))
            continue
        passed = []
        while queue[0][1] is not None and queue[0][2]:
            cell = queue.pop(0)
            passed.append(cell[0])
            queue.append([cell[0], cell[1], False])
        room, gone, _ = queue.pop(0)
        queue.append([room, page, True])
        answers.append((True, gone, passed))
    return answers


def lacking_by_search(rooms, row, rule):
    """Tell the lacks by "unseen" or "first", by looking back along the row."""
    there = []
    came = {}
    lacks = []
    for place, page in enumerate(row):
        if page in there:
            continue
        if len(there) == rooms:
            seen = {old: max(at for at in range(place) if row[at] == old)
                    for old in there}
            worth = seen if rule == "unseen" else came
            there.remove(min(there, key=lambda old: worth[old]))
        there.append(page)
        came[page] = place
        lacks.append(place)
    return lacks


def lacking_by_models(rooms, row, rule):
    """Tell the lacks by any rule, by the two models above."""
    if rule == "hand":
        return [place for place, answer in enumerate(told_by_queue(rooms, row))
                if answer[0]]
    return lacking_by_search(rooms, row, rule)


def fewest_lacks(rooms, row):
    """Tell the fewest lacks of all ways of letting go.

    All ways are gone through at once: by ask, the fewest lacks for each set
    of pages that may be there.
    """
    ways = {frozenset(): 0}
    for page in row:
        behind = {}
        for there, lacks in ways.items():
            for rest, more in choices(rooms, there, page):
                fewest = behind.get(rest, lacks + more)
                behind[rest] = min(fewest, lacks + more)
        ways = behind
    return min(ways.values())


def choices(rooms, there, page):
    """Tell (pages there behind an ask, lacks) of each way of letting go."""
    if page in there:
        return [(there, 0)]
    if len(there) < rooms:
        return [(there | {page}, 1)]
    return [(there - {gone} | {page}, 1) for gone in there]


def best_by_search(rooms, row):
    """Tell what best tells, by looking ahead along the row at each lack."""
    there = []
    lacks = []
    gone = []
    for place, page in enumerate(row):
        if page in there:
            continue
        lacks.append(place)
        if len(there) == rooms:
            ahead = row[place:]
            never = sorted(old for old in there if old not in ahead)
            leaving = never[0] if never else max(there, key=ahead.index)
            there.remove(leaving)
            gone.append((place, leaving))
        there.append(page)
    return lacks, gone


def spells_by_pairs(row):
    """Tell the spells, by looking at all pairs of places."""
    return sorted(
        [(begin, end) for begin, end in combinations(range(len(row)), 2)
         if row[begin] == row[end] and row[begin] not in row[begin + 1:end]],
        key=lambda spell: spell[1])


def shown_by_counting(rooms, row, places):
    """Tell what a paper shows, by marking the places of the paper."""
    taken = [place in places for place in range(len(row))]
    free = [1 for begin, end in spells_by_pairs(row)
            if not any(taken[begin + 1:end])]
    return len(row) - sum(free) - sum(taken) * (rooms - 1)


def all_papers(row):
    """Give all rising lists of places of a row."""
    for many in range(len(row) + 1):
        for places in combinations(range(len(row)), many):
            yield list(places)


def stretches_by_ends(rooms, row):
    """Tell the stretches, by trying their ends from the row's end down."""
    parts = []
    begin = 0
    while begin < len(row):
        end = len(row)
        while len(set(row[begin:end])) > rooms:
            end -= 1
        parts.append((begin, end))
        begin = end
    return parts


def worst_by_models(rooms, pages, long, rule):
    """Tell what worst tells, by the models above."""
    found = {}
    for row in product(range(pages), repeat=long):
        lacks = len(lacking_by_models(rooms, row, rule))
        found[row] = lacks - fewest_lacks(rooms, row)
    more = max(found.values())
    return more, list(min(row for row in found if found[row] == more))
