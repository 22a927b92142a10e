"""Plans in runs that cost least, reckoned run by run, and the papers that show it."""

from caseways.runcheck import bounds_of, runs_of_row, ways_of_run


def least_by(ways, numbers, plans):
    """Tell the pair (number, plan) of the way that costs least, by those of its parts."""
    bounds = bounds_of(ways, numbers)
    least = min(bounds)
    cost, head, parts = ways[bounds.index(least)]
    return (least, head + tuple([plans[part] for part in parts]))


def leasts_of_runs(stretches, weights, prices):
    """Tell two dicts, by runs: what plans in runs cost at least, and plans that cost just that."""
    numbers = {}
    plans = {}
    for run in runs_of_row(len(stretches)):
        ways = ways_of_run(stretches, weights, prices, run)
        numbers[run], plans[run] = least_by(ways, numbers, plans)
    return (numbers, plans)


def least_in_runs(stretches, weights, prices):
    """Tell the pair (cost, plan) of a plan in runs that costs least."""
    numbers, plans = leasts_of_runs(stretches, weights, prices)
    whole = (0, len(stretches))
    return (numbers[whole], plans[whole])


def run_paper(stretches, weights, prices):
    """Tell, for each first stretch, the list of the least costs of the runs that begin with it."""
    numbers, plans = leasts_of_runs(stretches, weights, prices)
    many = len(stretches)
    return [[numbers[(first, behind)] for behind in range(first + 1, many + 1)] for first in range(many)]
