"""Point [21]: stairs of cost by room."""

import copy
import random
import unittest

from caseways.costs import cost_of, room_of
from caseways.errors import BadText, Beyond, CaseError, NoStretch, TooNarrow, Twice
from caseways.leasts import least_plan, least_room
from caseways.plans import is_plan, rows_of
from caseways.reaching import leads_right
from caseways.stairs import plan_within, stair
from helper import all_of, all_plans, plain_cost, plain_is_plan, plain_room, some_plan, some_prices
from helper import some_stretches, some_weights

ONES = (1, 1, 1, 1, 1)
SIZES = (1, 1, 1, 1, 1, 1)
ROW = [(0, 0, 0), (1, 4, 1), (5, 5, 2), (6, 9, 0)]


def plain_stair(pairs):
    """The pairs (room, cost) of plans that no other pair is below."""
    return sorted(
        (room, cost)
        for room, cost in set(pairs)
        if not any((r <= room and c <= cost) and (r, c) != (room, cost) for r, c in set(pairs))
    )


def some_asked(chance, many, wide):
    """Stretches, weights, prices and sizes."""
    row = some_stretches(chance, many, chance.randrange(2, 6), wide)
    return row, some_weights(chance, many), some_prices(chance, 5), some_prices(chance, 5) + (chance.choice([1, 2, 99]),)


class Checks(unittest.TestCase):
    def check_form(self, told):
        self.assertIs(type(told), list)
        self.assertTrue(told)
        for step in told:
            self.assertIs(type(step), tuple)
            self.assertEqual([type(part) for part in step], [int, int])
        for (room, cost), (room_behind, cost_behind) in zip(told, told[1:]):
            self.assertLess(room, room_behind)
            self.assertGreater(cost, cost_behind)

    def check_within(self, asked, room, cost):
        """Whether a plan is told that takes at most the room, and costs just so much."""
        row, weights, prices, sizes = asked
        plan = plan_within(*asked, room)
        self.assertIs(is_plan(row, plan), True, (asked, plan))
        self.assertIs(plain_is_plan(row, all_of(row), plan), True)
        self.assertLessEqual(plain_room(row, sizes, plan), room, (asked, plan))
        self.assertEqual(plain_cost(row, weights, prices, plan), cost, (asked, plan))
        self.assertEqual(cost_of(row, weights, prices, plan), cost)
        self.assertLessEqual(room_of(row, sizes, plan), room)

    def check_all_rooms(self, asked):
        """What holds of the plans about each step; tells the stair."""
        told = stair(*asked)
        self.check_form(told)
        for at, (room, cost) in enumerate(told):
            self.check_within(asked, room, cost)
            behind = told[at + 1][0] if at + 1 < len(told) else room + 10 ** 9
            self.check_within(asked, behind - 1, cost)
            if room + 1 < behind:
                self.check_within(asked, room + 1, cost)
        for room in (told[0][0] - 1, -1, -10 ** 9):
            with self.assertRaises(TooNarrow):
                plan_within(*asked, room)
        return told


class Stair(Checks):
    def test_one_stretch(self):
        for row in ([(7, 7, 3)], [(-500, 500, 0)]):
            self.assertEqual(self.check_all_rooms((row, [9], ONES, SIZES)), [(0, 0)])
            self.assertEqual(plan_within(row, [9], ONES, SIZES, 0), ("pick", row[0][2]))

    def test_a_table_costs_less_and_takes_more(self):
        row = [(0, 4, 0), (5, 9, 1), (10, 14, 2)]
        told = self.check_all_rooms((row, [1, 1, 1], (9, 9, 9, 9, 2), (9, 9, 2, 9, 3, 1)))
        # Two halves; one, and a table of 10 places behind it, is no better than the table alone.
        self.assertEqual(told, [(4, 9 * 5), (2 + 3 + 10, 9 * 3 + 2 * 2), (3 + 15, 2 * 3)])

    def test_each_half_takes_its_room(self):
        row = [(300 * k, 300 * k + 299, k) for k in range(3)]
        # By within the outer one goes first and weighs most, by below it takes less room.
        told = self.check_all_rooms((row, [9, 1, 1], (50, 1, 3, 50, 50), (50, 7, 2, 50, 50, 1)))
        self.assertEqual(told, [(4, 3 * 11 + 3 * 2), (9, 3 * 2 + 11), (14, 13)])

    def test_all_prices_and_sizes_alike(self):
        self.assertEqual(self.check_all_rooms((ROW, [3, 1, 4, 1], ONES, SIZES)), [(2, 9 + 5), (11, 9)])

    def test_weights_of_0(self):
        chance = random.Random(211)
        for many in range(1, 6):
            row, _, prices, sizes = some_asked(chance, many, 9)
            told = self.check_all_rooms((row, [0] * many, prices, sizes))
            self.assertEqual(told, [(least_room(row, sizes)[0], 0)])

    def test_against_all_plans(self):
        chance = random.Random(212)
        for many in [1, 2, 2, 3, 3] * 8 + [4] * 8:
            wide = chance.choice([1, 3, 15, 40, 90, 300]) if many < 4 else chance.choice([20, 40, 90])
            asked = some_asked(chance, many, wide)
            row, weights, prices, sizes = asked
            pairs = [
                (plain_room(row, sizes, plan), plain_cost(row, weights, prices, plan))
                for plan in all_plans(row, all_of(row))
            ]
            self.assertEqual(self.check_all_rooms(asked), plain_stair(pairs), asked)

    def test_five_wide_stretches_against_all_plans(self):
        chance = random.Random(213)
        for _ in range(6):
            row = [(300 * k, 300 * k + 299, k % 3) for k in range(5)]
            row[2] = (600, 600, 2)
            row[3] = (601, 700, 0)
            row[4] = (701, 760, chance.choice([1, 2]))
            weights, prices, sizes = some_weights(chance, 5), some_prices(chance, 5), some_prices(chance, 5) + (1,)
            pairs = [
                (plain_room(row, sizes, plan), plain_cost(row, weights, prices, plan))
                for plan in all_plans(row, all_of(row))
            ]
            self.assertEqual(self.check_all_rooms((row, weights, prices, sizes)), plain_stair(pairs))

    def test_its_ends(self):
        chance = random.Random(214)
        for many in list(range(1, 7)) * 6:
            asked = some_asked(chance, many, chance.choice([1, 5, 20, 60, 300]))
            row, weights, prices, sizes = asked
            told = self.check_all_rooms(asked)
            self.assertEqual(told[0][0], least_room(row, sizes)[0])
            self.assertEqual(told[-1][1], least_plan(row, weights, prices)[0])

    def test_no_plan_is_below(self):
        chance = random.Random(215)
        for _ in range(30):
            asked = some_asked(chance, 6, chance.choice([1, 5, 20, 60, 300]))
            row, weights, prices, sizes = asked
            told = stair(*asked)
            for _ in range(40):
                plan = some_plan(chance, row, all_of(row))
                room, cost = plain_room(row, sizes, plan), plain_cost(row, weights, prices, plan)
                least = min(c for r, c in told if r <= room)
                self.assertLessEqual(least, cost, (asked, plan))

    def test_6_stretches(self):
        chance = random.Random(216)
        for labels in (2, 3, 6):
            for wide in (1, 8, 30, 2 ** 36):
                row = some_stretches(chance, 6, labels, wide)
                weights = [chance.randrange(10 ** 6) for _ in row]
                prices = tuple(chance.randrange(1, 100) for _ in range(5))
                sizes = tuple(chance.randrange(1, 100) for _ in range(6))
                told = self.check_all_rooms((row, weights, prices, sizes))
                plan = plan_within(row, weights, prices, sizes, told[-1][0])
                self.assertIs(leads_right(rows_of(row, plan), row), True)

    def test_somewhat_more_stretches(self):
        chance = random.Random(217)
        self.check_all_rooms(some_asked(chance, 8, 9))


class Narrow(unittest.TestCase):
    def test_of_no_other_refusals_class(self):
        with self.assertRaises(TooNarrow) as caught:
            plan_within(ROW, [1] * 4, ONES, SIZES, 1)
        self.assertIsInstance(caught.exception, CaseError)
        self.assertIsInstance(caught.exception, ValueError)
        self.assertNotIsInstance(caught.exception, (Twice, Beyond, NoStretch, BadText))
        self.assertIs(TooNarrow.__base__, CaseError)

    def test_just_below_the_least_room(self):
        self.assertEqual(stair(ROW, [1] * 4, ONES, SIZES)[0][0], 2)
        plan_within(ROW, [1] * 4, ONES, SIZES, 2)
        for room in (1, 0, -1, -10 ** 30):
            with self.assertRaises(TooNarrow):
                plan_within(ROW, [1] * 4, ONES, SIZES, room)


class AskedAgain(unittest.TestCase):
    def test_nothing_handed_in_is_changed(self):
        row, weights = list(ROW), [3, 1, 4, 1]
        told = stair(row, weights, ONES, SIZES)
        plan = plan_within(row, weights, ONES, SIZES, 2)
        with self.assertRaises(TooNarrow):
            plan_within(row, weights, ONES, SIZES, 1)
        self.assertEqual((row, weights), (ROW, [3, 1, 4, 1]))
        self.assertEqual(stair(row, weights, ONES, SIZES), told)
        self.assertEqual(plan_within(row, weights, ONES, SIZES, 2), plan)

    def test_told_lists_are_the_askers_own(self):
        told = stair(ROW, [3, 1, 4, 1], ONES, SIZES)
        kept = copy.deepcopy(told)
        told.clear()
        self.assertEqual(stair(ROW, [3, 1, 4, 1], ONES, SIZES), kept)


if __name__ == "__main__":
    unittest.main()
