"""The looker at papers for runs: what each way to lead a run costs bounds its number.

A run is a pair (first, behind): the stretches from first to ahead of behind. A
way is a triple (cost, head, parts): a plan is its head and the plans of its
parts, which are runs, behind it; the cost is that of the head alone.
"""

from caseways.costs import step_costs
from caseways.inrow import rows_for
from caseways.numbers import is_number
from caseways.plans import MOST_IN_MASK, MOST_IN_TABLE, labels_left, numbers_across


def runs_of_row(many):
    """Tell all runs of many stretches, each behind those that lie in it."""
    return [(first, behind) for first in reversed(range(many)) for behind in range(first + 1, many + 1)]


def ways_of_run(stretches, weights, prices, run):
    """Tell all ways to lead a run; a single stretch is picked by a row of no tests."""
    first, behind = run
    left = list(range(first, behind))
    costs = step_costs(weights, prices, left)
    across = numbers_across(stretches, left)
    labels = sorted(set(labels_left(stretches, left)))
    ways = [(cost, plan, []) for cost, plan in rows_for(stretches, weights, prices, left)]
    if across <= MOST_IN_TABLE:
        ways.append((costs["table"], ("table",), []))
    if across <= MOST_IN_MASK and len(labels) == 2:
        ways.append((costs["mask"], ("mask", labels[0], ("pick", labels[1])), []))
    ways.extend([(costs["below"], ("below", k), [(first, k), (k, behind)]) for k in left[1:]])
    return ways


def bounds_of(ways, numbers):
    """Tell what each way costs in all, by the numbers of its parts."""
    return [cost + sum([numbers[part] for part in parts]) for cost, head, parts in ways]


def is_list_of_numbers(thing, many):
    """Tell whether a thing is a list of just so many numbers."""
    return isinstance(thing, list) and len(thing) == many and all([is_number(part) for part in thing])


def is_run_paper(thing, many):
    """Tell whether a thing has the form of a paper for the runs of many stretches."""
    if not isinstance(thing, list) or len(thing) != many:
        return False
    return all([is_list_of_numbers(part, many - first) for first, part in enumerate(thing)])


def shows_runs(stretches, weights, prices, thing):
    """Tell whether a thing is a paper that shows which costs no plan in runs goes below."""
    many = len(stretches)
    if not is_run_paper(thing, many):
        return False
    runs = runs_of_row(many)
    numbers = {(first, behind): thing[first][behind - first - 1] for first, behind in runs}
    for run in runs:
        if numbers[run] > min(bounds_of(ways_of_run(stretches, weights, prices, run), numbers)):
            return False
    return True
