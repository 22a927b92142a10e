"""Counted runs: how often numbers lie in stretches and do rows."""

from caseways.costs import TESTS
from caseways.errors import NoStretch
from caseways.machine import run
from caseways.stretches import place_at


def weights_of(stretches, numbers):
    """Tell how many of some numbers each stretch has; refused where no stretch has one."""
    weights = [0] * len(stretches)
    for place, number in enumerate(numbers):
        at = place_at(stretches, number)
        if at is None:
            raise NoStretch(place)
        weights[at] += 1
    return weights


def counted(rows, numbers):
    """Tell how often each row is done by all of some numbers; refused where one reads beyond."""
    counts = [0] * len(rows)
    for number in numbers:
        label, done = run(rows, number)
        for at in done:
            counts[at] += 1
    return counts


def weighed(rows, counts, prices):
    """Tell the sum of the rows' counts times the prices of their kinds, picks 0."""
    price_of = dict(zip(TESTS, prices))
    return sum([count * price_of.get(row[0], 0) for row, count in zip(rows, counts)])
