"""Trees of halves: plans of below and pick alone."""


def least_of_run(best, weights, first, behind):
    """Tell the pair (cost, plan) of the stretches from first to ahead of behind, by those of lesser runs."""
    cost, k = min([(best[(first, k)][0] + best[(k, behind)][0], k) for k in range(first + 1, behind)])
    plan = ("below", k, best[(first, k)][1], best[(k, behind)][1])
    return (cost + sum(weights[first:behind]), plan)


def least_halves(stretches, weights):
    """Tell the pair (cost, plan) of a plan of below and pick alone that costs least."""
    many = len(stretches)
    best = {}
    for k, stretch in enumerate(stretches):
        best[(k, k + 1)] = (0, ("pick", stretch[2]))
    for size in range(2, many + 1):
        for first in range(many - size + 1):
            best[(first, first + size)] = least_of_run(best, weights, first, first + size)
    return best[(0, many)]


def halves_plan(stretches, weights):
    """Tell a plan of below and pick alone that costs least by prices of 1."""
    return least_halves(stretches, weights)[1]


def halves_cost(stretches, weights):
    """Tell what the plan of halves_plan costs by prices of 1."""
    return least_halves(stretches, weights)[0]
