"""Rows of tests: plans that test stretch by stretch, and pick one label for the others."""

from caseways.costs import cost_of


def word_of_test(stretch, prices):
    """Tell by which kind of test a single stretch is tested."""
    if stretch[0] == stretch[1] and prices[0] <= prices[1]:
        return "is"
    return "within"


def tests_in_order(stretches, weights, prices, label):
    """Tell the pairs (word, stretch) of the tests of all stretches of other labels, in order."""
    ranked = []
    for k, stretch in enumerate(stretches):
        if stretch[2] != label:
            word = word_of_test(stretch, prices)
            # There are but two prices, so weight times the other one ranks any two tests rightly.
            other = prices[1] if word == "is" else prices[0]
            ranked.append((-weights[k] * other, k, word))
    return [(word, k) for rank, k, word in sorted(ranked)]


def row_plan(stretches, weights, prices, label):
    """Tell the plan that tests each stretch of another label, in the order that costs least."""
    plan = ("pick", label)
    for word, k in reversed(tests_in_order(stretches, weights, prices, label)):
        plan = (word, k, plan)
    return plan


def best_row(stretches, weights, prices):
    """Tell the row plan of the label with which it costs least, the least of several."""
    best = None
    for label in sorted({stretch[2] for stretch in stretches}):
        plan = row_plan(stretches, weights, prices, label)
        cost = cost_of(stretches, weights, prices, plan)
        if best is None or cost < best[0]:
            best = (cost, plan)
    return best[1]
