"""Point [15]: trees of halves."""

import copy
import random
import unittest

from caseways.halves import halves_cost, halves_plan
from caseways.plans import is_plan, rows_of
from caseways.reaching import leads_right
from helper import halves_of, plain_cost, some_stretches, some_weights

ONES = (1, 1, 1, 1, 1)


def words_in(plan):
    """The words of all steps of a plan of halves."""
    if plan[0] != "below":
        return [plan[0]]
    return ["below"] + words_in(plan[2]) + words_in(plan[3])


def single_row(many):
    """Many stretches of one number each."""
    return [(k, k, k % 2) for k in range(many)]


def depths_of(many):
    """The least sum of depths of so many leaves: none lies two steps above another."""
    deep = many.bit_length() - 1
    return many * deep + 2 * (many - 2 ** deep)


class Halves(unittest.TestCase):
    def check(self, row, weights, cost):
        plan = halves_plan(row, weights)
        self.assertIs(is_plan(row, plan), True, (row, weights))
        self.assertLessEqual(set(words_in(plan)), {"below", "pick"})
        self.assertEqual(halves_cost(row, weights), cost, (row, weights))
        self.assertEqual(plain_cost(row, weights, ONES, plan), cost, (row, weights))
        self.assertIs(leads_right(rows_of(row, plan), row), True)

    def test_one_stretch(self):
        self.assertEqual(halves_plan([(0, 9, 4)], [7]), ("pick", 4))
        self.assertEqual(halves_cost([(0, 9, 4)], [7]), 0)

    def test_two_stretches(self):
        row = [(0, 9, 4), (10, 12, 5)]
        self.assertEqual(halves_plan(row, [7, 2]), ("below", 1, ("pick", 4), ("pick", 5)))
        self.assertEqual(halves_cost(row, [7, 2]), 9)

    def test_the_greater_weight_is_come_to_first(self):
        row = [(0, 9, 4), (10, 12, 5), (13, 13, 4)]
        self.assertEqual(halves_plan(row, [7, 2, 3])[1], 1)
        self.assertEqual(halves_plan(row, [3, 2, 7])[1], 2)
        self.check(row, [7, 2, 3], 12 + 5)
        self.check(row, [3, 2, 7], 12 + 5)
        self.check(row, [2, 7, 3], 12 + 9)

    def test_order_counts_not_weights_alone(self):
        # Pairing the two least, 1 and 1, would cost less, but they are no neighbours.
        self.check(single_row(3), [1, 9, 1], 11 + 10)
        self.check(single_row(4), [1, 9, 9, 1], 40)

    def test_like_weights(self):
        for many in list(range(1, 34)) + [60]:
            for weight in (0, 1, 7, 10 ** 6):
                self.check(single_row(many), [weight] * many, weight * depths_of(many))

    def test_weights_of_0(self):
        self.check(single_row(5), [0, 0, 6, 0, 0], 12)
        self.check(single_row(5), [6, 0, 0, 0, 0], 6)
        self.check(single_row(5), [0, 0, 0, 0, 6], 6)

    def test_doubling_weights(self):
        weights = [2 ** k for k in range(20)]
        cost = sum(weight * (20 - k if k else 19) for k, weight in enumerate(weights))
        self.check(single_row(20), weights, cost)
        self.check(single_row(20), weights[::-1], cost)

    def test_no_such_plan_costs_less(self):
        chance = random.Random(151)
        for many in list(range(1, 8)) * 8 + [8, 9]:
            row = some_stretches(chance, many, 3, 5)
            weights = some_weights(chance, many)
            plans = halves_of(row, 0, many)
            least = min(plain_cost(row, weights, ONES, plan) for plan in plans)
            self.check(row, weights, least)
            self.assertIn(halves_plan(row, weights), plans)

    def test_30_stretches(self):
        chance = random.Random(152)
        for _ in range(10):
            row = some_stretches(chance, 30, 5, 2 ** 33)
            weights = some_weights(chance, 30)
            self.check(row, weights, self.least_cost(weights))

    def test_somewhat_more_stretches(self):
        chance = random.Random(153)
        row = some_stretches(chance, 60, 5, 9)
        weights = some_weights(chance, 60)
        self.check(row, weights, self.least_cost(weights))

    def least_cost(self, weights):
        """By pairing again and again: the two least that have no leaf between them, at the first such places.

        No run is reckoned from lesser ones here, as the program does.
        """
        nodes = [(weight, True) for weight in weights]
        cost = 0
        while len(nodes) > 1:
            pairs = []
            for one in range(len(nodes)):
                for other in range(one + 1, len(nodes)):
                    pairs.append((nodes[one][0] + nodes[other][0], one, other))
                    if nodes[other][1]:
                        break
            weight, one, other = min(pairs)
            cost += weight
            nodes[one] = (weight, False)
            del nodes[other]
        return cost

    def test_the_pairing_tells_the_least_cost(self):
        chance = random.Random(154)
        for many in range(1, 8):
            for _ in range(10):
                weights = some_weights(chance, many)
                row = single_row(many)
                least = min(plain_cost(row, weights, ONES, plan) for plan in halves_of(row, 0, many))
                self.assertEqual(self.least_cost(weights), least, weights)

    def test_labels_are_those_of_the_stretches(self):
        row = [(0, 0, 5), (1, 1, 3), (2, 2, 5), (3, 3, 8)]
        self.check(row, [1, 1, 1, 1], 8)
        self.assertEqual(halves_plan(row, [1] * 4), (
            "below", 2, ("below", 1, ("pick", 5), ("pick", 3)), ("below", 3, ("pick", 5), ("pick", 8)),
        ))


class AskedAgain(unittest.TestCase):
    def test_nothing_handed_in_is_changed(self):
        row = [(0, 9, 4), (10, 12, 5), (13, 13, 4)]
        weights = [7, 2, 3]
        kept = copy.deepcopy((row, weights))
        for _ in range(2):
            self.assertEqual(halves_plan(row, weights), ("below", 1, ("pick", 4), ("below", 2, ("pick", 5), ("pick", 4))))
            self.assertEqual(halves_cost(row, weights), 17)
            self.assertEqual((row, weights), kept)

    def test_changed_weights_are_told_anew(self):
        row = [(0, 9, 4), (10, 12, 5), (13, 13, 4)]
        weights = [7, 2, 3]
        told = halves_plan(row, weights)
        weights[2] = 50
        self.assertEqual(told[1], 1)
        self.assertEqual(halves_plan(row, weights)[1], 2)


if __name__ == "__main__":
    unittest.main()
