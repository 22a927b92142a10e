"""Point [13]: costs and room of plans."""

import copy
import random
import unittest

from caseways.costs import cost_of, room_of
from caseways.plans import rows_of
from helper import all_of, plain_cost, plain_room, plain_run, some_plan, some_prices, some_stretches, some_weights

ROW = [(0, 3, 0), (4, 4, 1), (5, 9, 0), (10, 10, 2), (11, 20, 1)]
WEIGHTS = [1, 10, 100, 1000, 10000]
PRICES = (2, 3, 5, 7, 11)
SIZES = (2, 3, 5, 7, 11, 13)
TABLE = ("table",)


class CostOf(unittest.TestCase):
    def check(self, plan, cost):
        self.assertEqual(cost_of(ROW, WEIGHTS, PRICES, plan), cost, plan)

    def test_a_pick_costs_nothing(self):
        self.assertEqual(cost_of([(0, 9, 3)], [50], PRICES, ("pick", 3)), 0)

    def test_each_test_has_its_price(self):
        self.check(TABLE, 11 * 11111)
        self.check(("is", 1, TABLE), 2 * 11111 + 11 * 11101)
        self.check(("within", 1, TABLE), 3 * 11111 + 11 * 11101)
        self.check(("below", 1, ("pick", 0), TABLE), 5 * 11111 + 11 * 11110)
        self.check(("mask", 0, TABLE), 7 * 11111 + 11 * 11010)
        self.check(("mask", 0, ("mask", 1, ("pick", 2))), 7 * 11111 + 7 * 11010)

    def test_halves_part_the_weights(self):
        self.check(("below", 3, ("below", 1, ("pick", 0), TABLE), ("is", 3, ("pick", 1))), (
            5 * 11111 + 5 * 111 + 11 * 110 + 2 * 11000
        ))

    def test_the_tested_stretch_does_the_test_too(self):
        row = [(0, 0, 0), (1, 1, 1)]
        self.assertEqual(cost_of(row, [1, 0], PRICES, ("is", 0, ("pick", 1))), 2)
        self.assertEqual(cost_of(row, [0, 1], PRICES, ("is", 0, ("pick", 1))), 2)

    def test_weights_of_0(self):
        self.assertEqual(cost_of(ROW, [0] * 5, PRICES, ("is", 1, TABLE)), 0)
        self.assertEqual(cost_of(ROW, [0, 0, 0, 0, 1], PRICES, ("is", 1, TABLE)), 13)
        self.assertEqual(cost_of(ROW, [0, 1, 0, 0, 0], PRICES, ("is", 1, TABLE)), 2)

    def test_great_weights_and_prices(self):
        row = [(k, k, k % 2) for k in range(60)]
        plan = ("pick", 1)
        for k in range(58, -1, -1):
            plan = ("is", k, plan)
        tests = sum(range(1, 60)) + 59
        self.assertEqual(cost_of(row, [10 ** 6] * 60, (99, 1, 1, 1, 1), plan), 99 * 10 ** 6 * tests)

    def test_down_each_stretchs_way(self):
        chance = random.Random(131)
        for _ in range(600):
            row = some_stretches(chance, chance.randrange(1, 15), chance.randrange(2, 6), chance.choice([2, 20, 90]))
            plan = some_plan(chance, row, all_of(row))
            weights = some_weights(chance, len(row))
            prices = some_prices(chance, 5)
            cost = cost_of(row, weights, prices, plan)
            self.assertEqual(cost, plain_cost(row, weights, prices, plan), (row, plan))
            twice = cost_of(row, [2 * weight for weight in weights], prices, plan)
            self.assertEqual(twice, 2 * cost)

    def test_60_stretches(self):
        chance = random.Random(132)
        for _ in range(20):
            row = some_stretches(chance, 60, 5, chance.choice([2, 20, 2 ** 33]))
            plan = some_plan(chance, row, all_of(row))
            weights = some_weights(chance, 60)
            prices = some_prices(chance, 5)
            self.assertEqual(cost_of(row, weights, prices, plan), plain_cost(row, weights, prices, plan))

    def test_plans_as_deep_as_there_are_stretches(self):
        row = [(k, k, k % 2) for k in range(400)]
        plan = ("pick", 0)
        for k in range(1, 400):
            plan = ("below", k, plan, ("pick", k % 2))
        self.assertEqual(cost_of(row, [1] * 400, (1,) * 5, plan), sum(range(2, 401)))
        self.assertEqual(room_of(row, (1, 1, 3, 1, 1, 1), plan), 3 * 399)


class RoomOf(unittest.TestCase):
    def check(self, plan, room):
        self.assertEqual(room_of(ROW, SIZES, plan), room, plan)

    def test_a_pick_takes_no_room(self):
        self.assertEqual(room_of([(0, 9, 3)], SIZES, ("pick", 3)), 0)

    def test_each_test_has_its_size(self):
        self.check(TABLE, 11 + 13 * 21)
        self.check(("is", 1, TABLE), 2 + 11 + 13 * 21)
        self.check(("within", 1, TABLE), 3 + 11 + 13 * 21)
        self.check(("mask", 0, ("mask", 1, ("pick", 2))), 14)
        self.check(("mask", 2, ("mask", 1, ("pick", 0))), 14)
        self.check(("within", 4, ("is", 3, ("is", 1, ("pick", 0)))), 7)

    def test_the_span_of_what_is_left_there(self):
        self.check(("within", 0, TABLE), 3 + 11 + 13 * 17)
        self.check(("within", 4, TABLE), 3 + 11 + 13 * 11)
        self.check(("within", 2, TABLE), 3 + 11 + 13 * 21)
        self.check(("mask", 0, TABLE), 7 + 11 + 13 * 17)
        self.check(("mask", 0, ("within", 4, TABLE)), 7 + 3 + 11 + 13 * 7)
        self.check(("below", 3, TABLE, TABLE), 5 + 11 + 13 * 10 + 11 + 13 * 11)
        self.check(("below", 1, ("pick", 0), TABLE), 5 + 11 + 13 * 17)

    def test_a_table_for_one_stretch(self):
        self.assertEqual(room_of([(0, 199, 3)], SIZES, TABLE), 11 + 13 * 200)
        self.assertEqual(room_of([(7, 7, 3)], SIZES, TABLE), 11 + 13)

    def test_test_by_test(self):
        chance = random.Random(133)
        for many in list(range(1, 15)) * 30 + [60] * 10:
            row = some_stretches(chance, many, chance.randrange(2, 6), chance.choice([2, 20, 90]))
            plan = some_plan(chance, row, all_of(row))
            sizes = some_prices(chance, 6)
            self.assertEqual(room_of(row, sizes, plan), plain_room(row, sizes, plan), (row, plan))


class AskedAgain(unittest.TestCase):
    def test_nothing_handed_in_is_changed(self):
        row, weights = list(ROW), list(WEIGHTS)
        plan = ("below", 2, TABLE, ("is", 3, TABLE))
        kept = copy.deepcopy(plan)
        told = (cost_of(row, weights, PRICES, plan), room_of(row, SIZES, plan))
        self.assertEqual((cost_of(row, weights, PRICES, plan), room_of(row, SIZES, plan)), told)
        self.assertEqual((row, weights, plan), (ROW, WEIGHTS, kept))

    def test_changed_weights_are_told_anew(self):
        weights = [1, 1]
        row = [(0, 0, 0), (1, 1, 1)]
        self.assertEqual(cost_of(row, weights, PRICES, TABLE), 22)
        weights[0] = 2
        self.assertEqual(cost_of(row, weights, PRICES, TABLE), 33)


class CostsAndRuns(unittest.TestCase):
    def test_the_cost_is_the_weighed_count_of_rows_done(self):
        chance = random.Random(134)
        for _ in range(100):
            row = some_stretches(chance, chance.randrange(1, 9), 3, 9)
            plan = some_plan(chance, row, all_of(row))
            rows = rows_of(row, plan)
            prices = dict(zip(["is", "within", "below", "mask", "table", "pick"], some_prices(chance, 5) + (0,)))
            cost = 0
            for low, high, _ in row:
                for number in range(low, high + 1):
                    cost += sum(prices[rows[done][0]] for done in plain_run(rows, number)[1])
            weights = [high - low + 1 for low, high, _ in row]
            self.assertEqual(cost_of(row, weights, tuple(prices.values())[:5], plan), cost)


if __name__ == "__main__":
    unittest.main()
