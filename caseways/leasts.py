"""Plans of least cost and of least room, reckoned set by set, and the papers that show it."""

from caseways.leastcheck import charged_ways, cost_charges, room_charges
from caseways.runs import least_by


def leasts_of_sets(stretches, charges):
    """Tell two lists, for all sets from 0 on: what plans charge at least, and plans that charge just that."""
    # The empty set is no part of a way, so anything may stand for it.
    numbers = [0]
    plans = [None]
    for some in range(1, len(charges)):
        number, plan = least_by(charged_ways(stretches, charges, some), numbers, plans)
        numbers.append(number)
        plans.append(plan)
    return (numbers, plans)


def least_plan(stretches, weights, prices):
    """Tell the pair (cost, plan) of a plan that costs least."""
    numbers, plans = leasts_of_sets(stretches, cost_charges(stretches, weights, prices))
    return (numbers[-1], plans[-1])


def cost_paper(stretches, weights, prices):
    """Tell, for each set of stretches from 0 on, the least cost of its plans."""
    numbers, plans = leasts_of_sets(stretches, cost_charges(stretches, weights, prices))
    return numbers


def least_room(stretches, sizes):
    """Tell the pair (room, plan) of a plan that takes least room."""
    numbers, plans = leasts_of_sets(stretches, room_charges(stretches, sizes))
    return (numbers[-1], plans[-1])


def room_paper(stretches, sizes):
    """Tell, for each set of stretches from 0 on, the least room of its plans."""
    numbers, plans = leasts_of_sets(stretches, room_charges(stretches, sizes))
    return numbers
