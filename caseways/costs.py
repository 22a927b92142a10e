"""Costs and room of plans, by told weights, prices and sizes."""

from caseways.plans import numbers_across, steps_of

# The order in which prices and sizes are told; sizes have that of a place behind.
TESTS = ("is", "within", "below", "mask", "table")


def step_costs(weights, prices, left):
    """Tell, by their words, what steps cost for the stretches left."""
    # All that is left at a test does it, the tested stretch too.
    together = sum([weights[k] for k in left])
    costs = {word: price * together for word, price in zip(TESTS, prices)}
    costs["pick"] = 0
    return costs


def step_rooms(stretches, sizes, left):
    """Tell, by their words, the room of steps for the stretches left."""
    rooms = dict(zip(TESTS, sizes))
    rooms["table"] += sizes[-1] * numbers_across(stretches, left)
    rooms["pick"] = 0
    return rooms


def cost_of(stretches, weights, prices, plan):
    """Tell what a plan costs: each stretch's weight times the prices of the tests on its way."""
    return sum([step_costs(weights, prices, left)[part[0]] for left, part in steps_of(stretches, plan)])


def room_of(stretches, sizes, plan):
    """Tell the room of a plan: the sizes of its tests, of a table its places too."""
    return sum([step_rooms(stretches, sizes, left)[part[0]] for left, part in steps_of(stretches, plan)])
