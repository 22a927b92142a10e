"""Costs and room of plans, by told weights, prices and sizes."""

from caseways.plans import numbers_across, steps_of

# The order in which prices and sizes are told; sizes have that of a place behind.
TESTS = ("is", "within", "below", "mask", "table")


def tests_of(stretches, plan):
    """Tell the triples (left, word, place among prices) of all tests of a plan."""
    return [(left, part[0], TESTS.index(part[0])) for left, part in steps_of(stretches, plan) if part[0] != "pick"]


def cost_of(stretches, weights, prices, plan):
    """Tell what a plan costs: each stretch's weight times the prices of the tests on its way."""
    # All that is left at a test does it, the tested stretch too.
    return sum([prices[at] * sum([weights[k] for k in left]) for left, word, at in tests_of(stretches, plan)])


def room_of(stretches, sizes, plan):
    """Tell the room of a plan: the sizes of its tests, of a table its places too."""
    room = 0
    for left, word, at in tests_of(stretches, plan):
        room += sizes[at]
        if word == "table":
            room += sizes[-1] * numbers_across(stretches, left)
    return room
