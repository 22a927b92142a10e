"""Points [16] and [17]: plans in runs, and the papers that show them least."""

import copy
import random
import unittest

from caseways.costs import cost_of
from caseways.halves import halves_plan
from caseways.inrow import best_row, row_plan
from caseways.plans import is_plan, rows_of
from caseways.reaching import leads_right
from caseways.runcheck import shows_runs
from caseways.runs import least_in_runs, run_paper
from helper import across, all_in_runs, all_of, plain_cost, plain_row_plan, some_prices, some_stretches, some_weights

ONES = (1, 1, 1, 1, 1)
# Prices by which one kind of test is had for next to nothing.
CHEAP = {
    "is": (1, 99, 99, 99, 99),
    "within": (99, 1, 99, 99, 99),
    "below": (99, 99, 1, 99, 99),
    "mask": (99, 99, 99, 1, 99),
    "table": (99, 99, 99, 99, 1),
}


def is_in_runs(row, weights, prices, left, plan):
    """Whether a plan is one in runs for stretches side by side."""
    labels = sorted({row[k][2] for k in left})
    if plan == ("table",):
        return across(row, left) <= 200
    if plan[0] == "below":
        word, k, one, other = plan
        ahead, behind = [part for part in left if part < k], [part for part in left if part >= k]
        if not ahead or k not in behind:
            return False
        return is_in_runs(row, weights, prices, ahead, one) and is_in_runs(row, weights, prices, behind, other)
    if plan[0] == "mask":
        rest = [label for label in labels if label != plan[1]]
        return len(labels) == 2 and [plan[2]] == [("pick", label) for label in rest] and across(row, left) <= 64
    return plan in [plain_row_plan(row, weights, prices, left, label) for label in labels]


class Checks(unittest.TestCase):
    def check(self, row, weights, prices):
        """What holds of each answer, however many stretches there are; tells the pair."""
        told = least_in_runs(row, weights, prices)
        self.assertIs(type(told), tuple)
        cost, plan = told
        self.assertIs(type(cost), int)
        self.assertIs(is_plan(row, plan), True, (row, weights, prices))
        self.assertIs(is_in_runs(row, weights, prices, all_of(row), plan), True, (row, weights, prices))
        self.assertEqual(plain_cost(row, weights, prices, plan), cost, (row, weights, prices))
        self.assertEqual(cost_of(row, weights, prices, plan), cost)
        self.check_paper(row, weights, prices, cost)
        return told

    def check_paper(self, row, weights, prices, cost):
        paper = run_paper(row, weights, prices)
        self.assertIs(type(paper), list)
        self.assertEqual([len(part) for part in paper], list(range(len(row), 0, -1)))
        for part in paper:
            self.assertIs(type(part), list)
            self.assertEqual({type(number) for number in part}, {int})
        self.assertIs(shows_runs(row, weights, prices, paper), True, (row, weights, prices))
        self.assertEqual(paper[0][-1], cost)


class LeastInRuns(Checks):
    def test_one_stretch_alone(self):
        for row in ([(7, 7, 3)], [(-500, 500, 0)]):
            for weight in (0, 1, 10 ** 6):
                told = self.check(row, [weight], (5, 4, 3, 2, 1))
                self.assertEqual(told[0], 0)
                self.assertEqual(run_paper(row, [weight], (5, 4, 3, 2, 1)), [[0]])
        self.assertEqual(least_in_runs([(7, 7, 3)], [9], ONES), (0, ("pick", 3)))

    def test_two_stretches(self):
        row = [(0, 9, 4), (10, 10, 5)]
        self.assertEqual(self.check(row, [7, 2], CHEAP["is"]), (9, ("is", 1, ("pick", 4))))
        self.assertEqual(self.check(row, [7, 2], CHEAP["within"])[0], 9)
        self.assertEqual(self.check(row, [7, 2], CHEAP["below"]), (9, ("below", 1, ("pick", 4), ("pick", 5))))
        self.assertEqual(self.check(row, [7, 2], CHEAP["mask"])[0], 9)
        self.assertEqual(self.check(row, [7, 2], CHEAP["table"]), (9, ("table",)))

    def test_a_table_of_200_numbers_and_of_201(self):
        self.assertEqual(self.check([(0, 99, 0), (100, 199, 1)], [3, 4], CHEAP["table"]), (7, ("table",)))
        self.assertEqual(self.check([(0, 99, 0), (100, 200, 1)], [3, 4], CHEAP["table"])[0], 99 * 7)

    def test_a_mask_of_64_numbers_and_of_65(self):
        row = [(0, 30, 0), (31, 31, 1), (32, 63, 0)]
        self.assertEqual(self.check(row, [3, 4, 5], CHEAP["mask"])[0], 12)
        row = [(0, 30, 0), (31, 31, 1), (32, 64, 0)]
        self.assertEqual(self.check(row, [3, 4, 5], CHEAP["mask"])[0], 99 * 12)

    def test_a_mask_only_where_two_labels_are_left(self):
        row = [(0, 3, 0), (4, 4, 1), (5, 9, 2)]
        # A below ahead of a mask; two masks, one behind another, are no plan in runs.
        self.assertEqual(self.check(row, [3, 4, 5], (99, 99, 50, 1, 99))[0], 50 * 12 + 4 + 3)
        row = [(0, 3, 0), (4, 4, 1), (5, 9, 0), (10, 10, 1)]
        self.assertEqual(self.check(row, [3, 4, 5, 6], CHEAP["mask"])[0], 18)

    def test_no_test_but_below_stands_ahead_of_a_table(self):
        row = [(0, 900, 0), (901, 901, 1), (902, 902, 0), (903, 903, 2)]
        prices = (50, 50, 50, 99, 1)
        told = self.check(row, [9, 1, 1, 1], prices)
        self.assertEqual(told, (50 * 12 + 3, ("below", 1, ("pick", 0), ("table",))))
        # A table behind the first within would cost less, 10 * 12 + 3.
        self.assertEqual(self.check(row, [9, 1, 1, 1], (50, 10, 99, 99, 1))[0], 10 * (12 + 3 + 2))

    def test_a_row_of_tests_by_each_label(self):
        for labels in ((0, 1, 0, 2, 0), (1, 2, 1, 0, 1), (2, 0, 2, 1, 2)):
            row = [(400 * k, 400 * k + 399, label) for k, label in enumerate(labels)]
            plan = ("within", 3, ("within", 1, ("pick", labels[0])))
            self.assertEqual(self.check(row, [1, 8, 1, 9, 1], CHEAP["within"]), (20 + 11, plan))

    def test_a_row_of_tests_behind_a_below(self):
        # The numbers of the stretches are those of the whole row there.
        row = [(300 * k, 300 * k + 299, 9 - k) for k in range(6)]
        self.assertEqual(self.check(row, [12, 11, 10, 11, 10, 12], (99, 4, 5, 99, 99)), (
            5 * 66 + 2 * 4 * (33 + 21),
            ("below", 3, ("within", 0, ("within", 1, ("pick", 7))), ("within", 5, ("within", 3, ("pick", 5)))),
        ))

    def test_weights_of_0(self):
        chance = random.Random(161)
        for many in list(range(1, 7)) + [30]:
            row = some_stretches(chance, many, 3, 9)
            for prices in CHEAP.values():
                self.assertEqual(self.check(row, [0] * many, prices)[0], 0)

    def test_no_plan_in_runs_costs_less(self):
        chance = random.Random(162)
        for many in list(range(1, 5)) * 50 + [5] * 20:
            row = some_stretches(chance, many, chance.randrange(2, 6), chance.choice([1, 3, 15, 40, 90, 300]))
            weights = some_weights(chance, many)
            prices = chance.choice([some_prices(chance, 5), some_prices(chance, 5)] + list(CHEAP.values()))
            plans = all_in_runs(row, weights, prices, 0, many)
            cost, plan = self.check(row, weights, prices)
            self.assertEqual(cost, min(plain_cost(row, weights, prices, each) for each in plans), (row, weights, prices))
            self.assertIn(plan, plans)

    def test_no_more_than_the_plans_of_other_points(self):
        chance = random.Random(163)
        for many in list(range(2, 12)) * 6 + [30] * 6:
            row = some_stretches(chance, many, chance.randrange(2, 6), chance.choice([1, 3, 9, 300]))
            weights = some_weights(chance, many)
            prices = chance.choice([some_prices(chance, 5)] + list(CHEAP.values()))
            cost = self.check(row, weights, prices)[0]
            labels = sorted({stretch[2] for stretch in row})
            plans = [halves_plan(row, weights), best_row(row, weights, prices)]
            plans += [row_plan(row, weights, prices, label) for label in labels]
            if across(row, all_of(row)) <= 200:
                plans.append(("table",))
            if across(row, all_of(row)) <= 64 and len(labels) == 2:
                plans.append(("mask", labels[1], ("pick", labels[0])))
            for plan in plans:
                self.assertLessEqual(cost, plain_cost(row, weights, prices, plan), (row, weights, prices, plan))

    def test_30_stretches(self):
        chance = random.Random(164)
        for labels in (2, 3, 8, 30, 99):
            for wide in (1, 5, 20, 2 ** 30):
                row = some_stretches(chance, 30, labels, wide)
                plan = self.check(row, some_weights(chance, 30), some_prices(chance, 5))[1]
                self.assertIs(leads_right(rows_of(row, plan), row), True)

    def test_somewhat_more_stretches(self):
        chance = random.Random(165)
        self.check(some_stretches(chance, 60, 9, 20), some_weights(chance, 60), some_prices(chance, 5))


class RunPaper(Checks):
    def test_run_by_run(self):
        chance = random.Random(171)
        for many in list(range(1, 5)) * 12 + [5] * 4:
            row = some_stretches(chance, many, chance.randrange(2, 6), chance.choice([1, 15, 40, 90, 300]))
            weights = some_weights(chance, many)
            prices = chance.choice([some_prices(chance, 5)] + list(CHEAP.values()))
            paper = run_paper(row, weights, prices)
            for first in range(many):
                for behind in range(first + 1, many + 1):
                    own, mine = row[first:behind], weights[first:behind]
                    plans = all_in_runs(own, mine, prices, 0, len(own))
                    least = min(plain_cost(own, mine, prices, each) for each in plans)
                    # No number may be greater; the last one of the first list is the least cost itself.
                    self.assertLessEqual(paper[first][behind - first - 1], least)
            self.check_paper(row, weights, prices, least_in_runs(row, weights, prices)[0])


class AskedAgain(unittest.TestCase):
    ROW = [(0, 3, 0), (4, 4, 1), (5, 9, 0), (10, 10, 2), (11, 220, 1)]

    def test_nothing_handed_in_is_changed(self):
        row, weights = list(self.ROW), [5, 4, 9, 2, 1]
        kept = copy.deepcopy((row, weights))
        told = (least_in_runs(row, weights, ONES), run_paper(row, weights, ONES))
        self.assertEqual((row, weights), kept)
        self.assertEqual((least_in_runs(row, weights, ONES), run_paper(row, weights, ONES)), told)

    def test_told_lists_are_the_askers_own(self):
        paper = run_paper(self.ROW, [5, 4, 9, 2, 1], ONES)
        kept = copy.deepcopy(paper)
        self.assertEqual(len({id(part) for part in paper}), len(paper))
        for part in paper:
            part.clear()
        paper.clear()
        self.assertEqual(run_paper(self.ROW, [5, 4, 9, 2, 1], ONES), kept)

    def test_changed_weights_are_told_anew(self):
        row, weights = list(self.ROW), [0, 0, 0, 0, 0]
        paper = run_paper(row, weights, ONES)
        self.assertEqual(least_in_runs(row, weights, ONES)[0], 0)
        weights[1] = 1
        self.assertEqual(least_in_runs(row, weights, ONES)[0], 1)
        self.assertEqual(paper[0], [0] * 5)


if __name__ == "__main__":
    unittest.main()
