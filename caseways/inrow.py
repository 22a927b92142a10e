"""Rows of tests: plans that test stretch by stretch, and pick one label for the others."""

from caseways.costs import TESTS


def word_of_test(stretch, prices):
    """Tell by which kind of test a single stretch is tested."""
    if stretch[0] == stretch[1] and prices[0] <= prices[1]:
        return "is"
    return "within"


def tests_in_order(stretches, weights, prices, left):
    """Tell the pairs (word, stretch) of the tests of all stretches left, in order."""
    ranked = []
    for k in left:
        word = word_of_test(stretches[k], prices)
        # There are but two prices, so weight times the other one ranks any two tests rightly.
        other = prices[1] if word == "is" else prices[0]
        ranked.append((-weights[k] * other, k, word))
    return [(word, k) for rank, k, word in sorted(ranked)]


def row_by(stretches, tests, label):
    """Tell the plan that does those tests that are for other labels, and then picks the label."""
    plan = ("pick", label)
    for word, k in reversed(tests):
        if stretches[k][2] != label:
            plan = (word, k, plan)
    return plan


def row_cost(stretches, weights, prices, tests, label):
    """Tell what the plan of row_by costs for the stretches that the tests are for."""
    waiting = sum([weights[k] for word, k in tests])
    cost = 0
    for word, k in tests:
        if stretches[k][2] != label:
            cost += prices[TESTS.index(word)] * waiting
            waiting -= weights[k]
    return cost


def rows_for(stretches, weights, prices, left):
    """Tell the pairs (cost, plan) of the rows of tests for the stretches left, by rising labels."""
    # The order of two tests is the same whatever label is picked.
    tests = tests_in_order(stretches, weights, prices, left)
    labels = sorted({stretches[k][2] for k in left})
    return [
        (row_cost(stretches, weights, prices, tests, label), row_by(stretches, tests, label))
        for label in labels
    ]


def row_plan(stretches, weights, prices, label):
    """Tell the plan that tests each stretch of another label, in the order that costs least."""
    tests = tests_in_order(stretches, weights, prices, list(range(len(stretches))))
    return row_by(stretches, tests, label)


def best_row(stretches, weights, prices):
    """Tell the row plan of the label with which it costs least, the least of several."""
    rows = rows_for(stretches, weights, prices, list(range(len(stretches))))
    cost, plan = min(rows, key=lambda row: row[0])
    return plan
