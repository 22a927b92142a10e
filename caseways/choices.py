"""Choices: tuples (width, sign, cases), and which case a number goes to."""

from caseways.numbers import is_kind, is_number, least_of, most_of, pattern_of
from caseways.spans import case_spans, joined, least_shared, lie_within


def is_item(width, sign, thing):
    """Tell whether a thing is an item for the numbers of a kind."""
    if not isinstance(thing, tuple) or len(thing) not in (2, 3):
        return False
    if not all([is_number(part) for part in thing[1:]]):
        return False
    least = least_of(width, sign)
    most = most_of(width, sign)
    if len(thing) == 2:
        return thing[0] == "is" and least <= thing[1] <= most
    word, one, other = thing
    if word == "from":
        return least <= one <= other <= most
    full = most_of(width, 0)
    return word == "bits" and 0 <= one <= full and 0 <= other <= full


def is_case(width, sign, thing):
    """Tell whether a thing is a list of items for the numbers of a kind."""
    return isinstance(thing, list) and all([is_item(width, sign, item) for item in thing])


def is_choice(thing):
    """Tell whether a thing is a choice."""
    if not isinstance(thing, tuple) or len(thing) != 3:
        return False
    width, sign, cases = thing
    if not is_kind(width, sign) or not isinstance(cases, list):
        return False
    return all([is_case(width, sign, case) for case in cases])


def picks(width, item, number):
    """Tell whether an item picks a number of the kind."""
    if item[0] == "is":
        return number == item[1]
    if item[0] == "from":
        return item[1] <= number <= item[2]
    return (pattern_of(number, width) & item[1]) == item[2]


def case_picks(width, items, number):
    """Tell whether an item of a case picks a number."""
    return any([picks(width, item, number) for item in items])


def picked(choice, number):
    """Tell the label of a number: the first case that picks it, or the rest."""
    width, sign, cases = choice
    for label, items in enumerate(cases):
        if case_picks(width, items, number):
            return label
    return len(cases)


def clash_of(choice):
    """Tell None, or (one, other, number) of the least number that two cases pick."""
    width, sign, cases = choice
    number = least_shared([case_spans(width, sign, items) for items in cases])
    if number is None:
        return None
    labels = [label for label, items in enumerate(cases) if case_picks(width, items, number)]
    return (labels[0], labels[1], number)


def dead_cases(choice):
    """Tell the rising list of the cases that no number goes to."""
    width, sign, cases = choice
    taken = []
    dead = []
    for label, items in enumerate(cases):
        spans = case_spans(width, sign, items)
        if lie_within(spans, taken):
            dead.append(label)
        taken = joined(taken + spans)
    return dead
