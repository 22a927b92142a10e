"""Stairs: the least costs of plans, by the room that they may take.

A step is a triple (room, cost, plan). A stair of steps rises by room and falls
by cost, so each step is the plan of least cost for its room.
"""

from caseways.errors import TooNarrow
from caseways.leastcheck import cost_charges, room_charges, ways_of_set


def steps_up(steps):
    """Tell those of some steps that cost less than all that take no more room."""
    told = []
    for step in sorted(steps, key=lambda each: (each[0], each[1])):
        if not told or step[1] < told[-1][1]:
            told.append(step)
    return told


def joined_steps(steps, behind):
    """Tell each of some steps with each of others behind it."""
    return [
        (room + room_behind, cost + cost_behind, plan + (plan_behind,))
        for room, cost, plan in steps
        for room_behind, cost_behind, plan_behind in behind
    ]


def stairs_of_sets(stretches, weights, prices, sizes):
    """Tell, for each set of stretches from 0 on, the stair of its plans."""
    costs = cost_charges(stretches, weights, prices)
    rooms = room_charges(stretches, sizes)
    # The empty set is no part of a way, so anything may stand for it.
    told = [[]]
    for some in range(1, len(costs)):
        found = []
        for head, parts in ways_of_set(stretches, some):
            steps = [(rooms[some][head[0]], costs[some][head[0]], head)]
            for part in parts:
                steps = joined_steps(steps, told[part])
            found.extend(steps)
        told.append(steps_up(found))
    return told


def stair(stretches, weights, prices, sizes):
    """Tell the pairs (room, cost) of the rooms at which plans begin to cost less."""
    return [(room, cost) for room, cost, plan in stairs_of_sets(stretches, weights, prices, sizes)[-1]]


def plan_within(stretches, weights, prices, sizes, room):
    """Tell a plan that costs least of those that take no more than some room; refused where there is none."""
    plans = [step[2] for step in stairs_of_sets(stretches, weights, prices, sizes)[-1] if step[0] <= room]
    if not plans:
        raise TooNarrow(f"no plan takes a room of {room} or less")
    return plans[-1]
