"""Point [14]: rows of tests."""

import copy
import itertools
import random
import unittest

from caseways.inrow import best_row, row_plan
from caseways.plans import is_plan
from helper import plain_cost, some_prices, some_stretches, some_weights

# Stretches 1 and 3 have one number each.
ROW = [(0, 3, 0), (4, 4, 1), (5, 9, 0), (10, 10, 2), (11, 20, 1)]
ONES = (1, 1, 1, 1, 1)


def tests_of(plan):
    """The pairs (word, stretch) of a row of tests, and its pick."""
    tests = []
    while plan[0] != "pick":
        tests.append(plan[:2])
        plan = plan[2]
    return tests, plan


def plan_of(tests, label):
    """The row of tests that does these, then picks the label."""
    plan = ("pick", label)
    for word, k in reversed(tests):
        plan = (word, k, plan)
    return plan


def words_for(stretch):
    """The kinds of tests by which a stretch may be tested."""
    return ["is", "within"] if stretch[0] == stretch[1] else ["within"]


class RowPlan(unittest.TestCase):
    def check(self, weights, prices, label, tests):
        plan = row_plan(ROW, weights, prices, label)
        self.assertEqual(tests_of(plan), (tests, ("pick", label)))
        self.assertIs(is_plan(ROW, plan), True)

    def test_each_label_that_some_have(self):
        weights = [50, 40, 30, 20, 10]
        self.check(weights, ONES, 0, [("is", 1), ("is", 3), ("within", 4)])
        self.check(weights, ONES, 1, [("within", 0), ("within", 2), ("is", 3)])
        self.check(weights, ONES, 2, [("within", 0), ("is", 1), ("within", 2), ("within", 4)])

    def test_one_stretch_alone(self):
        self.assertEqual(row_plan([(0, 9, 7)], [3], ONES, 7), ("pick", 7))

    def test_is_where_it_costs_no_more_than_within(self):
        weights = [1] * 5
        self.check(weights, (3, 3, 1, 1, 1), 0, [("is", 1), ("is", 3), ("within", 4)])
        self.check(weights, (2, 3, 1, 1, 1), 0, [("is", 1), ("is", 3), ("within", 4)])
        self.check(weights, (4, 3, 1, 1, 1), 0, [("within", 1), ("within", 3), ("within", 4)])
        self.check(weights, (99, 98, 1, 1, 1), 0, [("within", 1), ("within", 3), ("within", 4)])
        self.check(weights, (1, 99, 1, 1, 1), 0, [("is", 1), ("is", 3), ("within", 4)])

    def test_the_greater_weight_first(self):
        self.check([0, 5, 0, 7, 6], ONES, 0, [("is", 3), ("within", 4), ("is", 1)])
        self.check([0, 10 ** 6 - 1, 0, 0, 10 ** 6], ONES, 0, [("within", 4), ("is", 1), ("is", 3)])

    def test_alike_ones_by_the_lesser_stretch(self):
        self.check([0, 5, 0, 5, 5], ONES, 0, [("is", 1), ("is", 3), ("within", 4)])
        self.check([0] * 5, (2, 3, 1, 1, 1), 2, [("within", 0), ("is", 1), ("within", 2), ("within", 4)])
        self.check([0, 2, 0, 2, 3], (2, 3, 1, 1, 1), 0, [("is", 1), ("is", 3), ("within", 4)])
        self.check([3, 2, 0, 2, 0], (2, 3, 1, 1, 1), 2, [("within", 0), ("is", 1), ("within", 2), ("within", 4)])

    def test_weight_times_the_others_price(self):
        # 4 by is of price 2 is as much as 6 by within of price 3.
        self.check([0, 4, 0, 0, 6], (2, 3, 1, 1, 1), 0, [("is", 1), ("within", 4), ("is", 3)])
        self.check([0, 4, 0, 0, 7], (2, 3, 1, 1, 1), 0, [("within", 4), ("is", 1), ("is", 3)])
        self.check([0, 4, 0, 0, 5], (2, 3, 1, 1, 1), 0, [("is", 1), ("within", 4), ("is", 3)])
        self.check([6, 4, 0, 0, 0], (2, 3, 1, 1, 1), 2, [("within", 0), ("is", 1), ("within", 2), ("within", 4)])
        self.check([5, 4, 0, 0, 0], (2, 3, 1, 1, 1), 2, [("is", 1), ("within", 0), ("within", 2), ("within", 4)])

    def test_other_prices_do_not_matter(self):
        weights = [5, 4, 3, 2, 1]
        plan = row_plan(ROW, weights, ONES, 0)
        self.assertEqual(row_plan(ROW, weights, (1, 1, 99, 98, 97), 0), plan)

    def test_no_other_order_costs_less(self):
        chance = random.Random(141)
        for _ in range(150):
            row = some_stretches(chance, chance.randrange(1, 7), 3, chance.choice([1, 3]))
            weights = some_weights(chance, len(row))
            prices = some_prices(chance, 5)
            for label in sorted({stretch[2] for stretch in row}):
                plan = row_plan(row, weights, prices, label)
                others = [k for k, stretch in enumerate(row) if stretch[2] != label]
                tests, pick = tests_of(plan)
                self.assertEqual(pick, ("pick", label))
                self.assertEqual(sorted(k for _, k in tests), others)
                ways = itertools.product(*[words_for(row[k]) for k in others])
                plans = [
                    plan_of(list(order), label)
                    for words in ways
                    for order in itertools.permutations(list(zip(words, others)))
                ]
                least = min(plain_cost(row, weights, prices, other) for other in plans)
                self.assertEqual(plain_cost(row, weights, prices, plan), least, (row, weights, prices))

    def test_two_by_two_as_the_document_has_it(self):
        chance = random.Random(142)
        for many in list(range(2, 12)) * 10 + [60] * 10:
            row = some_stretches(chance, many, chance.randrange(2, 9), chance.choice([1, 3, 2 ** 33]))
            weights = some_weights(chance, many)
            prices = some_prices(chance, 5)
            label = chance.choice(row)[2]
            plan = row_plan(row, weights, prices, label)
            self.assertIs(is_plan(row, plan), True)
            tests, pick = tests_of(plan)
            self.assertEqual(pick, ("pick", label))
            self.assertEqual(sorted(k for _, k in tests), [k for k in range(many) if row[k][2] != label])
            for word, k in tests:
                single = row[k][0] == row[k][1] and prices[0] <= prices[1]
                self.assertEqual(word, "is" if single else "within")
            price = {"is": prices[0], "within": prices[1]}
            for (word, k), (other_word, other) in itertools.combinations(tests, 2):
                one, two = weights[k] * price[other_word], weights[other] * price[word]
                self.assertTrue(one > two or (one == two and k < other), (row, weights, prices))


class BestRow(unittest.TestCase):
    def test_the_label_with_which_it_costs_least(self):
        for weights, costs, plan in (
            ([9, 1, 9, 2, 3], [64, 45, 48], ("within", 0, ("within", 2, ("is", 3, ("pick", 1))))),
            ([1, 9, 1, 1, 9], [36, 60, 38], ("is", 1, ("within", 4, ("is", 3, ("pick", 0))))),
            ([6, 2, 0, 0, 0], [20, 12, 10], ("within", 0, ("is", 1, ("within", 2, ("within", 4, ("pick", 2)))))),
            ([4, 4, 4, 0, 4], [36, 36, 40], ("is", 1, ("within", 4, ("is", 3, ("pick", 0))))),
        ):
            plans = [row_plan(ROW, weights, ONES, label) for label in range(3)]
            self.assertEqual([plain_cost(ROW, weights, ONES, each) for each in plans], costs)
            self.assertEqual(best_row(ROW, weights, ONES), plan)

    def test_prices_tell_too(self):
        row = [(0, 9, 5), (10, 10, 3)]
        self.assertEqual(best_row(row, [1, 1], (1, 9, 1, 1, 1)), ("is", 1, ("pick", 5)))
        self.assertEqual(best_row(row, [1, 1], (9, 1, 1, 1, 1)), ("within", 0, ("pick", 3)))

    def test_the_least_label_of_several(self):
        self.assertEqual(best_row([(0, 0, 5), (1, 1, 3)], [1, 1], ONES), ("is", 0, ("pick", 3)))
        self.assertEqual(best_row([(0, 0, 3), (1, 1, 5)], [1, 1], ONES), ("is", 1, ("pick", 3)))
        self.assertEqual(best_row([(0, 0, 3), (1, 1, 5)], [7, 1], ONES), ("is", 1, ("pick", 3)))
        self.assertEqual(tests_of(best_row([(0, 0, 9), (1, 1, 2), (2, 2, 7)], [0, 0, 0], ONES))[1], ("pick", 2))

    def test_one_stretch_alone(self):
        self.assertEqual(best_row([(0, 9, 7)], [3], ONES), ("pick", 7))
        self.assertEqual(best_row([(0, 9, 7)], [0], ONES), ("pick", 7))

    def test_label_by_label(self):
        chance = random.Random(143)
        for many in list(range(1, 12)) * 20 + [60] * 5:
            row = some_stretches(chance, many, chance.randrange(2, 9), chance.choice([1, 3, 90]))
            weights = some_weights(chance, many)
            prices = some_prices(chance, 5)
            labels = sorted({stretch[2] for stretch in row})
            costs = [(plain_cost(row, weights, prices, row_plan(row, weights, prices, label)), label) for label in labels]
            told = best_row(row, weights, prices)
            self.assertEqual(told, row_plan(row, weights, prices, min(costs)[1]), (row, weights, prices))


class AskedAgain(unittest.TestCase):
    def test_nothing_handed_in_is_changed(self):
        row, weights = list(ROW), [5, 4, 9, 2, 1]
        kept = copy.deepcopy((row, weights))
        for _ in range(2):
            self.assertEqual(row_plan(row, weights, ONES, 0), ("is", 1, ("is", 3, ("within", 4, ("pick", 0)))))
            self.assertEqual(best_row(row, weights, ONES), ("within", 2, ("within", 0, ("is", 3, ("pick", 1)))))
            self.assertEqual((row, weights), kept)

    def test_changed_weights_are_told_anew(self):
        weights = [5, 4, 9, 2, 1]
        told = row_plan(ROW, weights, ONES, 0)
        weights[4] = 50
        self.assertEqual(told, ("is", 1, ("is", 3, ("within", 4, ("pick", 0)))))
        self.assertEqual(row_plan(ROW, weights, ONES, 0), ("within", 4, ("is", 1, ("is", 3, ("pick", 0)))))


if __name__ == "__main__":
    unittest.main()
