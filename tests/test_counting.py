"""Point [22]: counted runs."""

import copy
import random
import unittest

from caseways.costs import cost_of
from caseways.counting import counted, weighed, weights_of
from caseways.errors import BadText, Beyond, CaseError, NoStretch, TooNarrow, Twice
from caseways.halves import halves_plan
from caseways.plans import rows_of
from helper import WORDS, all_of, plain_run, some_plan, some_prices, some_rows, some_stretches, some_weights

ROW = [(-5, -1, 2), (0, 0, 0), (1, 9, 1)]
# A row of each form.
ROWS = [
    ("below", 0, 6), ("is", 0, 7), ("within", 1, 3, 7), ("mask", 4, 4, 0b0101, 6),
    ("table", 4, (6, 6, 7, 6)), ("pick", 9), ("pick", 4), ("pick", 5),
]
PRICES = (2, 3, 5, 7, 11)


class WeightsOf(unittest.TestCase):
    def test_none_at_all(self):
        self.assertEqual(weights_of(ROW, []), [0, 0, 0])
        self.assertEqual(weights_of([(7, 7, 0)], []), [0])

    def test_ends_of_stretches(self):
        self.assertEqual(weights_of(ROW, [-5]), [1, 0, 0])
        self.assertEqual(weights_of(ROW, [-1]), [1, 0, 0])
        self.assertEqual(weights_of(ROW, [0]), [0, 1, 0])
        self.assertEqual(weights_of(ROW, [1]), [0, 0, 1])
        self.assertEqual(weights_of(ROW, [9]), [0, 0, 1])
        self.assertEqual(weights_of(ROW, [9, -5, 1, 0, -1]), [2, 1, 2])

    def test_numbers_twice(self):
        self.assertEqual(weights_of(ROW, [0, 0, 9, 0, 9]), [0, 3, 2])
        self.assertEqual(weights_of(ROW, [-3] * 2000), [2000, 0, 0])

    def test_no_stretch(self):
        for numbers, place in (
            ([-6], 0), ([10], 0), ([0, 10], 1), ([10, 0], 0), ([0, -6, 10], 1), ([0, 1, 2, 10 ** 30], 3), ([10, 10], 0),
        ):
            with self.assertRaises(NoStretch) as caught:
                weights_of(ROW, numbers)
            self.assertEqual(caught.exception.place, place)
            self.assertIs(type(caught.exception.place), int)

    def test_of_no_other_refusals_class(self):
        with self.assertRaises(NoStretch) as caught:
            weights_of(ROW, [10])
        self.assertIsInstance(caught.exception, CaseError)
        self.assertNotIsInstance(caught.exception, (Twice, Beyond, TooNarrow, BadText))

    def test_number_by_number(self):
        chance = random.Random(221)
        for many in list(range(1, 12)) * 5 + [60, 400]:
            row = some_stretches(chance, many, 5, chance.choice([1, 4, 30]))
            spread = range(row[0][0] - (many % 2), row[-1][1] + 1)
            numbers = [chance.choice(spread) for _ in range(chance.choice([1, 10, 2000]))]
            out = [place for place, number in enumerate(numbers) if number < row[0][0]]
            if out:
                with self.assertRaises(NoStretch) as caught:
                    weights_of(row, numbers)
                self.assertEqual(caught.exception.place, out[0])
                numbers = [number for number in numbers if number >= row[0][0]]
            plain = [sum(low <= number <= high for number in numbers) for low, high, _ in row]
            self.assertEqual(weights_of(row, numbers), plain)


class Counted(unittest.TestCase):
    def test_none_at_all(self):
        self.assertEqual(counted(ROWS, []), [0] * 8)
        self.assertEqual(counted([("pick", 3)], []), [0])

    def test_rows_of_all_forms(self):
        self.assertEqual(counted(ROWS, [-1]), [1, 0, 0, 0, 0, 0, 1, 0])
        self.assertEqual(counted(ROWS, [0]), [1, 1, 0, 0, 0, 0, 0, 1])
        self.assertEqual(counted(ROWS, [3]), [1, 1, 1, 0, 0, 0, 0, 1])
        self.assertEqual(counted(ROWS, [4]), [1, 1, 1, 1, 0, 0, 1, 0])
        self.assertEqual(counted(ROWS, [5]), [1, 1, 1, 1, 1, 0, 1, 0])
        self.assertEqual(counted(ROWS, [6]), [1, 1, 1, 1, 0, 0, 1, 0])
        self.assertEqual(counted(ROWS, [7]), [1, 1, 1, 1, 1, 0, 1, 0])
        self.assertEqual(counted(ROWS, [7, 0, -1, 0, 3]), [5, 4, 2, 1, 1, 0, 2, 3])

    def test_beyond_as_run_of_the_first_that_is(self):
        # 8 reads the mask beyond its ends, -9 and 20 the table ahead of it.
        rows = [("below", 9, 2), ("table", 9, (3, 3)), ("mask", -8, 16, 5, 3), ("pick", 0)]
        for numbers, row in (([8], 2), ([20], 1), ([-9], 2), ([0, 9, 8, 20], 2), ([0, 20, 8], 1), ([10, 11, -9], 1)):
            with self.assertRaises(Beyond) as caught:
                counted(rows, numbers)
            self.assertEqual(caught.exception.row, row, numbers)
        self.assertEqual(counted(rows, [7, -8, 9, 10]), [4, 2, 2, 4])

    def test_number_by_number(self):
        chance = random.Random(222)
        for _ in range(200):
            rows = some_rows(chance, chance.randrange(1, 12), -10, 10, 30)
            numbers = [chance.randrange(-12, 13) for _ in range(chance.randrange(30))]
            runs = [plain_run(rows, number) for number in numbers]
            beyond = [row for label, row in runs if label is None]
            if beyond:
                with self.assertRaises(Beyond) as caught:
                    counted(rows, numbers)
                self.assertEqual(caught.exception.row, beyond[0])
            else:
                done = [row for _, each in runs for row in each]
                self.assertEqual(counted(rows, numbers), [done.count(row) for row in range(len(rows))])

    def test_2000_numbers(self):
        row = [(k, k, k % 7) for k in range(60)]
        rows = rows_of(row, halves_plan(row, [1] * 60))
        told = counted(rows, [k % 60 for k in range(2000)])
        self.assertEqual(told[0], 2000)
        self.assertEqual(sum(count for count, each in zip(told, rows) if each[0] == "pick"), 2000)


class Weighed(unittest.TestCase):
    def test_each_kind_has_its_price(self):
        for place, price in enumerate((5, 2, 3, 7, 11, 0, 0, 0)):
            counts = [0] * 8
            counts[place] = 10
            self.assertEqual(weighed(ROWS, counts, PRICES), 10 * price)
        self.assertEqual(weighed(ROWS, [1] * 8, PRICES), 28)
        self.assertEqual(weighed(ROWS, [5, 4, 2, 1, 1, 9, 2, 3], PRICES), 25 + 8 + 6 + 7 + 11)

    def test_picks_alone(self):
        self.assertEqual(weighed([("pick", 3)], [10 ** 6], PRICES), 0)
        self.assertEqual(weighed([("pick", 3), ("pick", 1)], [0, 0], PRICES), 0)

    def test_drawn_counts(self):
        chance = random.Random(223)
        for _ in range(200):
            rows = some_rows(chance, chance.randrange(1, 12), -10, 10, 30)
            counts = [chance.choice([0, chance.randrange(2000)]) for _ in rows]
            prices = some_prices(chance, 5)
            plain = 0
            for each, count in zip(rows, counts):
                if each[0] != "pick":
                    plain += count * prices[WORDS.index(each[0])]
            self.assertEqual(weighed(rows, counts, prices), plain)

    def test_of_a_plans_rows_it_is_the_cost(self):
        chance = random.Random(224)
        for _ in range(150):
            row = some_stretches(chance, chance.randrange(1, 12), 4, chance.choice([1, 5, 20]))
            plan = some_plan(chance, row, all_of(row))
            rows = rows_of(row, plan)
            prices = some_prices(chance, 5)
            numbers = [chance.randrange(row[0][0], row[-1][1] + 1) for _ in range(chance.randrange(60))]
            cost = cost_of(row, weights_of(row, numbers), prices, plan)
            self.assertEqual(weighed(rows, counted(rows, numbers), prices), cost, (row, plan, numbers))

    def test_of_drawn_weights_it_is_the_cost(self):
        chance = random.Random(225)
        for _ in range(40):
            row = some_stretches(chance, chance.randrange(1, 8), 4, 9)
            weights = [min(weight, 200) for weight in some_weights(chance, len(row))]
            numbers = [chance.randint(low, high) for (low, high, _), w in zip(row, weights) for _ in range(w)]
            chance.shuffle(numbers)
            self.assertEqual(weights_of(row, numbers), weights)
            plan = some_plan(chance, row, all_of(row))
            rows = rows_of(row, plan)
            self.assertEqual(weighed(rows, counted(rows, numbers), PRICES), cost_of(row, weights, PRICES, plan))


class AskedAgain(unittest.TestCase):
    def test_nothing_handed_in_is_changed(self):
        row, rows, numbers = list(ROW), list(ROWS), [0, 3, -1, 3]
        counts = [1] * 8
        wrong = [0, 99, 10]
        kept = copy.deepcopy((row, rows, numbers, counts, wrong))
        for _ in range(2):
            self.assertEqual(weights_of(row, numbers), [1, 1, 2])
            self.assertEqual(counted(rows, numbers), [4, 3, 2, 0, 0, 0, 1, 3])
            self.assertEqual(weighed(rows, counts, PRICES), 28)
            with self.assertRaises(NoStretch):
                weights_of(row, wrong)
            with self.assertRaises(Beyond):
                counted(rows, wrong)
            self.assertEqual((row, rows, numbers, counts, wrong), kept)

    def test_told_lists_are_the_askers_own(self):
        for ask in (lambda: weights_of(ROW, [0, 3]), lambda: counted(ROWS, [0, 3])):
            told = ask()
            kept = list(told)
            told.clear()
            self.assertEqual(ask(), kept)


if __name__ == "__main__":
    unittest.main()
