"""The lookers at papers for all plans: what each way to lead a set bounds its number.

A set of stretches is a number: the sum of 2 ** k for all k in it. A way is a
pair (head, parts): a plan is its head and the plans of its parts, which are
sets, behind it. Charges are a list with, for each set from 0 on, a dict of what
heads cost there, or the room they take, by their words.
"""

from caseways.costs import step_costs, step_rooms
from caseways.plans import MOST_IN_MASK, MOST_IN_TABLE, labels_left, numbers_across
from caseways.runcheck import bounds_of, is_list_of_numbers


def stretches_in(some):
    """Tell the rising list of the stretches in a set."""
    return [k for k in range(some.bit_length()) if (some >> k) & 1]


def set_of(left):
    """Tell the set of some stretches."""
    return sum([1 << k for k in left])


def ways_by_label(stretches, left):
    """Tell the ways to lead the stretches left that tell them by their labels."""
    across = numbers_across(stretches, left)
    labels = sorted(set(labels_left(stretches, left)))
    ways = []
    if len(labels) == 1:
        ways.append((("pick", labels[0]), []))
    if across <= MOST_IN_TABLE:
        ways.append((("table",), []))
    if across <= MOST_IN_MASK and len(labels) > 1:
        for label in labels:
            ways.append((("mask", label), [set_of([k for k in left if stretches[k][2] != label])]))
    return ways


def ways_by_stretch(stretches, left):
    """Tell the ways to lead the stretches left, more than one, that test at one of them."""
    some = set_of(left)
    ways = []
    for k in left:
        others = some - (1 << k)
        if stretches[k][0] == stretches[k][1]:
            ways.append((("is", k), [others]))
        ways.append((("within", k), [others]))
    for k in left[1:]:
        ahead = some & ((1 << k) - 1)
        ways.append((("below", k), [ahead, some - ahead]))
    return ways


def ways_of_set(stretches, some):
    """Tell all ways to lead a set that isn't empty."""
    left = stretches_in(some)
    ways = ways_by_label(stretches, left)
    if len(left) > 1:
        ways.extend(ways_by_stretch(stretches, left))
    return ways


def cost_charges(stretches, weights, prices):
    """Tell for each set what heads cost there."""
    return [step_costs(weights, prices, stretches_in(some)) for some in range(1 << len(stretches))]


def room_charges(stretches, sizes):
    """Tell for each set the room that heads take there; of the empty one, which has no span, nothing."""
    return [{}] + [step_rooms(stretches, sizes, stretches_in(some)) for some in range(1, 1 << len(stretches))]


def charged_ways(stretches, charges, some):
    """Tell all ways to lead a set, each with its charge ahead."""
    return [(charges[some][head[0]], head, parts) for head, parts in ways_of_set(stretches, some)]


def shows_least(stretches, charges, numbers):
    """Tell whether the number of each set that isn't empty is at most what each way charges."""
    for some in range(1, len(numbers)):
        if numbers[some] > min(bounds_of(charged_ways(stretches, charges, some), numbers)):
            return False
    return True


def shows_costs(stretches, weights, prices, thing):
    """Tell whether a thing is a paper that shows which costs no plan goes below."""
    if not is_list_of_numbers(thing, 1 << len(stretches)):
        return False
    return shows_least(stretches, cost_charges(stretches, weights, prices), thing)


def shows_rooms(stretches, sizes, thing):
    """Tell whether a thing is a paper that shows which rooms no plan goes below."""
    if not is_list_of_numbers(thing, 1 << len(stretches)):
        return False
    return shows_least(stretches, room_charges(stretches, sizes), thing)
