"""Rows of stretches: lists of tuples (low, high, label), rising and side by side."""

from caseways.choices import clash_of
from caseways.errors import Twice
from caseways.numbers import is_number, least_of, most_of, pattern_of
from caseways.spans import case_spans


def with_the_rest(taken, least, most, rest):
    """Tell rising stretches and the gaps between, ahead and behind, which go to the rest."""
    told = []
    free = least
    for low, high, label in taken:
        if free < low:
            told.append((free, low - 1, rest))
        told.append((low, high, label))
        free = high + 1
    if free <= most:
        told.append((free, most, rest))
    return told


def stretches_of(choice):
    """Tell the stretches of all numbers of a choice's kind; refused where cases clash."""
    clash = clash_of(choice)
    if clash is not None:
        one, other, number = clash
        raise Twice(one, other, number)
    width, sign, cases = choice
    taken = []
    for label, items in enumerate(cases):
        # Spans of one case never touch one another, so no neighbours get one label.
        taken.extend([(low, high, label) for low, high in case_spans(width, sign, items)])
    return with_the_rest(sorted(taken), least_of(width, sign), most_of(width, sign), len(cases))


def pattern_items(width, item):
    """Tell the items that pick just the patterns of the numbers that an item picks."""
    if item[0] == "bits":
        return [item]
    if item[0] == "is":
        return [("is", pattern_of(item[1], width))]
    low = item[1]
    high = item[2]
    if low < 0 <= high:
        return [("from", 0, high), ("from", pattern_of(low, width), most_of(width, 0))]
    return [("from", pattern_of(low, width), pattern_of(high, width))]


def by_pattern(choice):
    """Tell the choice of sign 0 whose cases pick the patterns of the numbers of a choice's cases."""
    width, sign, cases = choice
    told = [[part for item in items for part in pattern_items(width, item)] for items in cases]
    return (width, 0, told)


def place_at(stretches, number):
    """Tell the place of the stretch that has a number, or None."""
    first = 0
    behind = len(stretches)
    while first < behind:
        middle = (first + behind) // 2
        low, high, label = stretches[middle]
        if number < low:
            behind = middle
        elif number > high:
            first = middle + 1
        else:
            return middle
    return None


def label_at(stretches, number):
    """Tell the label of the stretch that has a number, or None."""
    place = place_at(stretches, number)
    return None if place is None else stretches[place][2]


def is_stretch(thing):
    """Tell whether a thing is a single stretch."""
    if not isinstance(thing, tuple) or len(thing) != 3:
        return False
    if not all([is_number(part) for part in thing]):
        return False
    low, high, label = thing
    return low <= high and label >= 0


def is_stretches(thing):
    """Tell whether a thing is a row of stretches."""
    if not isinstance(thing, list) or not thing:
        return False
    if not all([is_stretch(part) for part in thing]):
        return False
    for ahead, behind in zip(thing, thing[1:]):
        if behind[0] != ahead[1] + 1 or behind[2] == ahead[2]:
            return False
    return True
