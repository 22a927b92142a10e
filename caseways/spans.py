"""Spans: pairs (low, high) of numbers side by side.

Going over all numbers of a wide kind would never end, and going over the
spans that items pick does.
"""

from caseways.numbers import least_of, most_of, number_of


def joined(spans):
    """Tell the same numbers in rising spans, as long as may be."""
    told = []
    for low, high in sorted(spans):
        if told and low <= told[-1][1] + 1:
            told[-1] = (told[-1][0], max(high, told[-1][1]))
        else:
            told.append((low, high))
    return told


def bits_spans(width, sign, mask, value):
    """Tell the spans of the numbers whose pattern has just value by the bits of mask."""
    if (value & mask) != value:
        return []
    if mask == 0:
        return [(least_of(width, sign), most_of(width, sign))]
    # Below the lowest bit of the mask all bits are free, so each start leads a
    # whole block of patterns. A block never holds patterns of both halves of
    # the kind, so its numbers, too, lie side by side.
    block = mask & -mask
    starts = [value]
    for place in range(block.bit_length(), width):
        bit = 1 << place
        if (mask & bit) == 0:
            starts = starts + [start + bit for start in starts]
    lows = [number_of(start, width, sign) for start in starts]
    return [(low, low + block - 1) for low in lows]


def item_spans(width, sign, item):
    """Tell the spans of the numbers that an item picks, in no set order."""
    if item[0] == "is":
        return [(item[1], item[1])]
    if item[0] == "from":
        return [(item[1], item[2])]
    return bits_spans(width, sign, item[1], item[2])


def case_spans(width, sign, items):
    """Tell the joined spans of the numbers that the items of a case pick."""
    spans = []
    for item in items:
        spans.extend(item_spans(width, sign, item))
    return joined(spans)


def lie_within(spans, others):
    """Tell whether all numbers of joined spans are numbers of other joined spans."""
    at = 0
    for low, high in spans:
        # The others are joined: a gap lies between any two, so no two of them
        # can hold a span together that neither holds alone.
        while at < len(others) and others[at][1] < high:
            at += 1
        if at == len(others) or low < others[at][0]:
            return False
    return True


def least_shared(rows):
    """Tell the least number that two of several rows of joined spans have, or None."""
    # Where two spans share a number they share the low of one of them. As long
    # as none did, the span straight ahead ends highest of all.
    ahead = None
    for low, high in sorted([span for spans in rows for span in spans]):
        if ahead is not None and low <= ahead:
            return low
        ahead = high
    return None
