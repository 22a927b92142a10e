"""Points [18] and [20]: plans of least cost and of least room, and their papers."""

import copy
import random
import unittest

from caseways.costs import cost_of, room_of
from caseways.halves import halves_plan
from caseways.inrow import best_row
from caseways.leastcheck import shows_costs, shows_rooms
from caseways.leasts import cost_paper, least_plan, least_room, room_paper
from caseways.plans import is_plan, rows_of
from caseways.reaching import leads_right
from caseways.runs import least_in_runs
from helper import across, all_of, all_plans, plain_cost, plain_is_plan, plain_room, some_plan, some_prices
from helper import some_stretches, some_weights

ONES = (1, 1, 1, 1, 1)
SIZES = (1, 1, 1, 1, 1, 1)


def cheap(word, many):
    """Prices, or sizes, by which one kind of test is had for next to nothing."""
    return tuple(1 if other == word else 99 for other in ("is", "within", "below", "mask", "table", "place"))[:many]


class Checks(unittest.TestCase):
    def check_told(self, row, told, paper):
        """What holds of each answer and paper, by costs or by room; tells the plan."""
        self.assertIs(type(told), tuple)
        number, plan = told
        self.assertIs(type(number), int)
        self.assertIs(is_plan(row, plan), True, (row, plan))
        self.assertIs(plain_is_plan(row, all_of(row), plan), True, (row, plan))
        self.assertIs(type(paper), list)
        self.assertEqual(len(paper), 2 ** len(row))
        self.assertEqual({type(part) for part in paper}, {int})
        self.assertEqual(paper[-1], number)
        return plan

    def check_cost(self, row, weights, prices):
        told = least_plan(row, weights, prices)
        paper = cost_paper(row, weights, prices)
        plan = self.check_told(row, told, paper)
        self.assertEqual(plain_cost(row, weights, prices, plan), told[0], (row, weights, prices))
        self.assertEqual(cost_of(row, weights, prices, plan), told[0])
        self.assertIs(shows_costs(row, weights, prices, paper), True)
        return told

    def check_room(self, row, sizes):
        told = least_room(row, sizes)
        paper = room_paper(row, sizes)
        plan = self.check_told(row, told, paper)
        self.assertEqual(plain_room(row, sizes, plan), told[0], (row, sizes))
        self.assertEqual(room_of(row, sizes, plan), told[0])
        self.assertIs(shows_rooms(row, sizes, paper), True)
        return told


class LeastPlan(Checks):
    def test_one_stretch(self):
        for row in ([(7, 7, 3)], [(-500, 500, 0)]):
            for weight in (0, 1, 10 ** 6):
                self.assertEqual(self.check_cost(row, [weight], (5, 4, 3, 2, 1))[0], 0)
                self.assertEqual(cost_paper(row, [weight], ONES)[1:], [0])
        self.assertEqual(least_plan([(7, 7, 3)], [9], ONES), (0, ("pick", 3)))

    def test_two_stretches(self):
        row = [(0, 9, 4), (10, 10, 5)]
        self.assertEqual(self.check_cost(row, [7, 2], cheap("is", 5)), (9, ("is", 1, ("pick", 4))))
        self.assertEqual(self.check_cost(row, [7, 2], cheap("within", 5))[0], 9)
        self.assertEqual(self.check_cost(row, [7, 2], cheap("below", 5)), (9, ("below", 1, ("pick", 4), ("pick", 5))))
        self.assertEqual(self.check_cost(row, [7, 2], cheap("mask", 5))[0], 9)
        self.assertEqual(self.check_cost(row, [7, 2], cheap("table", 5)), (9, ("table",)))

    def test_a_test_ahead_of_a_table(self):
        row = [(0, 900, 0), (901, 901, 1), (902, 902, 0), (903, 903, 2)]
        self.assertEqual(self.check_cost(row, [9, 1, 1, 1], (50, 10, 99, 99, 1)), (123, ("within", 0, ("table",))))

    def test_stretches_gone_between(self):
        # Once the great one is gone, those about it still span its numbers: no mask and no table.
        row = [(0, 0, 0), (1, 900, 1), (901, 901, 2)]
        told = self.check_cost(row, [1, 9, 1], (50, 2, 50, 1, 1))
        self.assertEqual(told[0], 2 * (11 + 2))
        row = [(0, 0, 0), (1, 198, 1), (199, 199, 2)]
        self.assertEqual(self.check_cost(row, [1, 9, 1], (50, 2, 50, 1, 1)), (11, ("table",)))

    def test_spans_of_what_is_left(self):
        # All of it has 201 numbers; without the last one 200 are left.
        row = [(0, 0, 0), (1, 198, 1), (199, 199, 2), (200, 200, 1)]
        told = self.check_cost(row, [1, 1, 1, 9], (50, 3, 50, 50, 1))
        self.assertEqual(told, (3 * 12 + 3, ("within", 3, ("table",))))

    def test_a_pick_of_stretches_apart(self):
        row = [(0, 300, 0), (301, 600, 1), (601, 900, 0), (901, 1200, 2), (1201, 1500, 0)]
        told = self.check_cost(row, [1, 8, 1, 9, 1], cheap("within", 5))
        self.assertEqual(told, (20 + 11, ("within", 3, ("within", 1, ("pick", 0)))))

    def test_masks_one_behind_another(self):
        row = [(0, 3, 0), (4, 4, 1), (5, 9, 2), (10, 10, 0)]
        told = self.check_cost(row, [3, 4, 5, 4], (99, 99, 50, 1, 99))
        self.assertEqual(told[0], 16 + 9)
        self.assertEqual(told[1][:2], ("mask", 0))

    def test_weights_of_0(self):
        chance = random.Random(181)
        for many in range(1, 8):
            row = some_stretches(chance, many, 3, 9)
            for word in ("is", "within", "below", "mask", "table"):
                self.assertEqual(self.check_cost(row, [0] * many, cheap(word, 5))[0], 0)

    def test_no_plan_costs_less(self):
        chance = random.Random(182)
        for many in [1, 2, 3, 3, 4] * 12 + [5]:
            wide = chance.choice([1, 3, 15, 40, 90, 300]) if many < 5 else 300
            row = some_stretches(chance, many, chance.randrange(2, 6), wide)
            plans = all_plans(row, all_of(row))
            for prices in (some_prices(chance, 5), cheap(chance.choice(["is", "within", "below", "mask", "table"]), 5)):
                weights = some_weights(chance, many)
                cost, plan = self.check_cost(row, weights, prices)
                least = min(plain_cost(row, weights, prices, each) for each in plans)
                self.assertEqual(cost, least, (row, weights, prices))
                self.assertIn(plan, plans)

    def test_no_more_than_other_plans(self):
        chance = random.Random(183)
        for many in list(range(2, 11)) * 4:
            row = some_stretches(chance, many, chance.randrange(2, 6), chance.choice([1, 3, 9, 60, 300]))
            weights = some_weights(chance, many)
            prices = some_prices(chance, 5)
            cost = self.check_cost(row, weights, prices)[0]
            self.assertLessEqual(cost, least_in_runs(row, weights, prices)[0])
            plans = [halves_plan(row, weights), best_row(row, weights, prices)]
            plans += [some_plan(chance, row, all_of(row)) for _ in range(200)]
            for plan in plans:
                self.assertLessEqual(cost, plain_cost(row, weights, prices, plan), (row, weights, prices, plan))

    def test_10_stretches(self):
        chance = random.Random(184)
        for labels in (2, 3, 10, 99):
            for wide in (1, 8, 30, 2 ** 36):
                row = some_stretches(chance, 10, labels, wide)
                plan = self.check_cost(row, some_weights(chance, 10), some_prices(chance, 5))[1]
                self.assertIs(leads_right(rows_of(row, plan), row), True)

    def test_somewhat_more_stretches(self):
        chance = random.Random(185)
        row = some_stretches(chance, 12, 4, 30)
        self.check_cost(row, some_weights(chance, 12), some_prices(chance, 5))


class CostPaper(Checks):
    def test_set_by_set(self):
        chance = random.Random(186)
        for many in [1, 2, 3, 4] * 6:
            row = some_stretches(chance, many, 3, chance.choice([1, 15, 40, 90, 300]))
            weights = some_weights(chance, many)
            prices = some_prices(chance, 5)
            paper = cost_paper(row, weights, prices)
            for some in range(1, 2 ** many):
                left = [k for k in range(many) if some >> k & 1]
                # What is gone weighs nothing, so it costs nothing to lead the others alone.
                own = [weights[k] if k in left else 0 for k in range(many)]
                told = [self.part_cost(row, own, prices, left, plan) for plan in all_plans(row, left)]
                self.assertLessEqual(paper[some], min(told))

    def part_cost(self, row, weights, prices, left, plan):
        """The cost of a plan for some stretches: ahead of it, each of the others is tested, for nothing."""
        for k in range(len(row)):
            if k not in left:
                plan = ("within", k, plan)
        gone = len(row) - len(left)
        return plain_cost(row, weights, prices, plan) - gone * prices[1] * sum(weights)


class LeastRoom(Checks):
    def test_one_stretch(self):
        self.assertEqual(least_room([(7, 7, 3)], SIZES), (0, ("pick", 3)))
        self.assertEqual(self.check_room([(-500, 500, 0)], (6, 5, 4, 3, 2, 1))[0], 0)

    def test_each_kind_of_test(self):
        row = [(0, 9, 4), (10, 10, 5)]
        self.assertEqual(self.check_room(row, cheap("is", 6)), (1, ("is", 1, ("pick", 4))))
        self.assertEqual(self.check_room(row, cheap("within", 6))[0], 1)
        self.assertEqual(self.check_room(row, cheap("below", 6)), (1, ("below", 1, ("pick", 4), ("pick", 5))))
        self.assertEqual(self.check_room(row, cheap("mask", 6))[0], 1)
        self.assertEqual(self.check_room(row, (99, 99, 99, 99, 2, 3)), (2 + 3 * 11, ("table",)))
        self.assertEqual(self.check_room(row, (99, 99, 99, 99, 1, 9))[0], 99)
        self.assertEqual(self.check_room(row, (99, 99, 99, 99, 10, 8)), (10 + 88, ("table",)))
        self.assertEqual(self.check_room(row, (99, 99, 99, 99, 12, 8))[0], 99)

    def test_stretches_gone_between(self):
        row = [(0, 0, 0), (1, 20, 1), (21, 21, 2)]
        # A table for the outer two has the places of the one between.
        self.assertEqual(self.check_room(row, (99, 2, 99, 99, 1, 1))[0], 4)
        self.assertEqual(self.check_room(row, (99, 30, 99, 99, 1, 1)), (23, ("table",)))
        self.assertEqual(self.check_room(row, (99, 11, 99, 99, 1, 1))[0], 22)

    def test_all_kinds_of_sizes_together(self):
        row = [(0, 300, 0), (301, 301, 1), (302, 310, 2), (311, 311, 0), (312, 600, 2)]
        sizes = (3, 9, 9, 9, 9, 9)
        self.assertEqual(self.check_room(row, sizes)[0], min(
            plain_room(row, sizes, plan) for plan in all_plans(row, all_of(row))
        ))

    def test_no_plan_takes_less(self):
        chance = random.Random(201)
        for many in [1, 2, 3, 3, 4] * 12 + [5]:
            wide = chance.choice([1, 3, 15, 40, 90, 300]) if many < 5 else 300
            row = some_stretches(chance, many, chance.randrange(2, 6), wide)
            plans = all_plans(row, all_of(row))
            for sizes in (some_prices(chance, 6), some_prices(chance, 5) + (1,)):
                room, plan = self.check_room(row, sizes)
                least = min(plain_room(row, sizes, each) for each in plans)
                self.assertEqual(room, least, (row, sizes))
                self.assertIn(plan, plans)

    def test_10_stretches(self):
        chance = random.Random(202)
        for labels in (2, 3, 10, 99):
            for wide in (1, 8, 30, 2 ** 36):
                row = some_stretches(chance, 10, labels, wide)
                sizes = some_prices(chance, 6)
                room, plan = self.check_room(row, sizes)
                self.assertIs(leads_right(rows_of(row, plan), row), True)
                for _ in range(50):
                    other = some_plan(chance, row, all_of(row))
                    self.assertLessEqual(room, plain_room(row, sizes, other), (row, sizes, other))


class AskedAgain(unittest.TestCase):
    ROW = [(0, 3, 0), (4, 4, 1), (5, 9, 0), (10, 10, 2), (11, 220, 1)]

    def all_told(self, row, weights):
        return (
            least_plan(row, weights, ONES), cost_paper(row, weights, ONES),
            least_room(row, SIZES), room_paper(row, SIZES),
        )

    def test_nothing_handed_in_is_changed(self):
        row, weights = list(self.ROW), [5, 4, 9, 2, 1]
        kept = copy.deepcopy((row, weights))
        told = self.all_told(row, weights)
        self.assertEqual((row, weights), kept)
        self.assertEqual(self.all_told(row, weights), told)

    def test_told_lists_are_the_askers_own(self):
        weights = [5, 4, 9, 2, 1]
        told = self.all_told(self.ROW, weights)
        kept = copy.deepcopy(told)
        told[1].clear()
        told[3].clear()
        self.assertEqual(self.all_told(self.ROW, weights), kept)

    def test_changed_weights_are_told_anew(self):
        row, weights = list(self.ROW), [0, 0, 0, 0, 0]
        paper = cost_paper(row, weights, ONES)
        self.assertEqual(least_plan(row, weights, ONES)[0], 0)
        weights[1] = 1
        self.assertEqual(least_plan(row, weights, ONES)[0], 1)
        self.assertEqual(paper[1:], [0] * 31)


if __name__ == "__main__":
    unittest.main()
