"""Reaching: which rows the numbers of a range come to, span by span."""

from caseways.rowforms import ends_of
from caseways.spans import joined, lie_within


def runs_of(first, goals):
    """Tell the ways (low, high, goal) of goals that stand for numbers from first on."""
    told = []
    for number, goal in enumerate(goals, start=first):
        if told and told[-1][2] == goal:
            told[-1] = (told[-1][0], number, goal)
        else:
            told.append((number, number, goal))
    return told


def mask_goals(row, at):
    """Tell the goal of a mask for each of its bits, the lowest first."""
    wide, bits, goal = row[2:]
    return [goal if (bits >> place) & 1 else at + 1 for place in range(wide)]


def ways_of(row, at, low, high):
    """Tell the rising ways (low, high, goal) on which numbers from low to high leave row at."""
    # A way whose low is above its high is one that no number takes.
    word = row[0]
    if word == "pick":
        return []
    if word == "table":
        return runs_of(row[1], row[2])
    if word == "mask":
        return runs_of(row[1], mask_goals(row, at))
    if word == "below":
        return [(low, row[1] - 1, row[2]), (row[1], high, at + 1)]
    first = row[1]
    last = row[-2]
    return [(low, first - 1, at + 1), (first, last, row[-1]), (last + 1, high, at + 1)]


def send_on(reached, spans, ways):
    """Add to what reaches each goal the numbers that both the spans and a way to it have."""
    span = 0
    way = 0
    while span < len(spans) and way < len(ways):
        low, high, goal = ways[way]
        first, last = spans[span]
        if max(low, first) <= min(high, last):
            reached[goal].append((max(low, first), min(high, last)))
        if last < high:
            span += 1
        else:
            way += 1


def come_to(rows, low, high):
    """Tell, for each row, the spans of the numbers from low to high with which it is come to."""
    reached = [[] for row in rows]
    reached[0].append((low, high))
    # All goals lie behind their rows: once its turn comes, all that reaches a row is there.
    for at, row in enumerate(rows):
        reached[at] = joined(reached[at])
        send_on(reached, reached[at], ways_of(row, at, low, high))
    return reached


def least_beyond(row, spans):
    """Tell the least number of rising spans that reads a row beyond its ends, or None."""
    ends = ends_of(row)
    if ends is None:
        return None
    for low, high in spans:
        if low < ends[0]:
            return low
        if high > ends[1]:
            return max(low, ends[1] + 1)
    return None


def beyond_among(rows, reached):
    """Tell None, or (row, number) of the first row that is read beyond its ends."""
    for at, spans in enumerate(reached):
        number = least_beyond(rows[at], spans)
        if number is not None:
            return (at, number)
    return None


def beyond_of(rows, low, high):
    """Tell None, or (row, number): the first row read beyond, and the least number that does."""
    return beyond_among(rows, come_to(rows, low, high))


def never_done(rows, low, high):
    """Tell the rising list of the rows that no number from low to high comes to."""
    return [at for at, spans in enumerate(come_to(rows, low, high)) if not spans]


def leads_right(rows, stretches):
    """Tell whether each number of the stretches comes to a pick of its label, none reading beyond."""
    reached = come_to(rows, stretches[0][0], stretches[-1][1])
    if beyond_among(rows, reached) is not None:
        return False
    spans_of = {}
    for low, high, label in stretches:
        spans_of.setdefault(label, []).append((low, high))
    for row, spans in zip(rows, reached):
        if row[0] == "pick" and not lie_within(spans, spans_of.get(row[1], [])):
            return False
    return True
