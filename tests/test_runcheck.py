"""Point [17]: the looker at papers for runs."""

import copy
import random
import unittest

from caseways.runcheck import shows_runs
from caseways.runs import run_paper
from helper import ODD_THINGS, across, all_of, plain_cost, plain_row_plan, some_prices, some_stretches, some_weights

ONES = (1, 1, 1, 1, 1)
ROW = [(0, 3, 0), (4, 4, 1), (5, 9, 0), (10, 10, 2)]
WEIGHTS = [5, 4, 9, 2]


def plain_run_bounds(row, weights, prices, paper, first, behind):
    """What each way costs for the stretches from first to ahead of behind."""
    own, mine = row[first:behind], weights[first:behind]
    left = all_of(own)
    labels = sorted({stretch[2] for stretch in own})
    if len(own) == 1:
        return [0]
    plans = [plain_row_plan(own, mine, prices, left, label) for label in labels]
    if across(own, left) <= 200:
        plans.append(("table",))
    if across(own, left) <= 64 and len(labels) == 2:
        plans.append(("mask", labels[0], ("pick", labels[1])))
    bounds = [plain_cost(own, mine, prices, plan) for plan in plans]
    for k in range(first + 1, behind):
        sides = paper[first][k - first - 1] + paper[k][behind - k - 1]
        bounds.append(prices[2] * sum(mine) + sides)
    return bounds


def plain_shows(row, weights, prices, paper):
    """Whether each number of a paper is at most what each way costs."""
    many = len(row)
    return all(
        paper[first][behind - first - 1] <= bound
        for first in range(many)
        for behind in range(first + 1, many + 1)
        for bound in plain_run_bounds(row, weights, prices, paper, first, behind)
    )


def lowered_paper(chance, row, weights, prices, lowest):
    """A paper whose numbers lie at most so far below what bounds them, and how far each does."""
    many = len(row)
    paper = [[] for _ in row]
    spare = [[] for _ in row]
    for first in reversed(range(many)):
        for behind in range(first + 1, many + 1):
            least = min(plain_run_bounds(row, weights, prices, paper, first, behind))
            spare[first].append(chance.choice([0, 0, chance.randrange(lowest + 1)]))
            paper[first].append(least - spare[first][-1])
    return paper, spare


def with_number(paper, first, place, number):
    """A paper with another number at a place."""
    changed = copy.deepcopy(paper)
    changed[first][place] = number
    return changed


class Numbers(unittest.TestCase):
    def shows(self, paper, whether, row=ROW, weights=WEIGHTS, prices=ONES):
        self.assertIs(shows_runs(row, weights, prices, paper), whether, (row, weights, prices, paper))

    def test_a_paper_of_one_stretch(self):
        for number, whether in ((0, True), (-1, True), (-(10 ** 30), True), (1, False), (10 ** 30, False)):
            self.shows([[number]], whether, [(0, 300, 1)], [7])
            self.shows([[number]], whether, [(0, 3, 1)], [0])

    def test_papers_far_below(self):
        # A number that lies far below bounds those of greater runs.
        self.shows([[-99] * 4, [-99] * 3, [-99] * 2, [-99]], False)
        self.shows([[-99, -198, -297, -396], [-99, -198, -297], [-99, -198], [-99]], True)
        self.shows([[0, -99, -999, -9999], [0, -99, -999], [0, -99], [0]], True)

    def test_a_number_for_one_stretch_alone_above_0(self):
        paper = run_paper(ROW, WEIGHTS, ONES)
        for k in range(4):
            self.shows(with_number(paper, k, 0, 1), False)
            self.shows(with_number(paper, k, 0, 0), True)

    def test_one_more_and_one_less_at_each_place(self):
        paper = run_paper(ROW, WEIGHTS, ONES)
        for first, part in enumerate(paper):
            for place, number in enumerate(part):
                self.shows(with_number(paper, first, place, number + 1), False)
                for other in (number - 1, number - 1000):
                    changed = with_number(paper, first, place, other)
                    self.shows(changed, plain_shows(ROW, WEIGHTS, ONES, changed))
        self.shows(with_number(paper, 0, 3, paper[0][3] - 1), True)
        self.shows(with_number(paper, 0, 3, -5), True)

    def test_a_table_of_200_numbers_and_of_201(self):
        prices = (99, 99, 99, 99, 1)
        for high, most in ((199, 7), (200, 99 * 7)):
            row = [(0, 99, 0), (100, high, 1)]
            self.shows([[0, most], [0]], True, row, [3, 4], prices)
            self.shows([[0, most + 1], [0]], False, row, [3, 4], prices)

    def test_a_mask_of_64_numbers_and_of_65(self):
        prices = (99, 99, 99, 1, 99)
        for high, most in ((63, 7), (64, 99 * 7)):
            row = [(0, 30, 0), (31, high, 1)]
            self.shows([[0, most], [0]], True, row, [3, 4], prices)
            self.shows([[0, most + 1], [0]], False, row, [3, 4], prices)

    def test_a_mask_only_where_two_labels_are_left(self):
        prices = (99, 99, 50, 1, 99)
        row = [(0, 3, 0), (4, 4, 1), (5, 9, 0)]
        self.shows([[0, 7, 12], [0, 9], [0]], True, row, [3, 4, 5], prices)
        self.shows([[0, 7, 13], [0, 9], [0]], False, row, [3, 4, 5], prices)
        row = [(0, 3, 0), (4, 4, 1), (5, 9, 2)]
        self.shows([[0, 7, 50 * 12 + 7], [0, 9], [0]], True, row, [3, 4, 5], prices)
        self.shows([[0, 7, 50 * 12 + 8], [0, 9], [0]], False, row, [3, 4, 5], prices)

    def test_a_row_of_tests_by_each_label(self):
        prices, weights = (99, 1, 99, 99, 99), [1, 9, 1, 10]
        for labels in ((0, 1, 0, 2), (1, 2, 1, 0), (2, 0, 2, 1)):
            row = [(300 * k, 300 * k + 299, label) for k, label in enumerate(labels)]
            # The tests are of stretch 3, then of stretch 1.
            paper = [[0, 10, 11, 32], [0, 10, 30], [0, 11], [0]]
            self.shows(paper, True, row, weights, prices)
            self.shows(with_number(paper, 0, 3, 33), False, row, weights, prices)
            self.shows(with_number(paper, 1, 2, 31), False, row, weights, prices)

    def test_a_row_of_tests_by_prices(self):
        row = [(0, 0, 0), (1, 1, 1), (2, 900, 0)]
        for prices, most in (((2, 3, 99, 99, 99), 20), ((3, 2, 99, 99, 99), 20), ((3, 3, 99, 99, 99), 30)):
            paper = [[0, 2 * most // 5, most], [0, 7 * most // 10], [0]]
            self.shows(paper, True, row, [3, 1, 6], prices)
            self.shows(with_number(paper, 0, 2, most + 1), False, row, [3, 1, 6], prices)

    def test_a_below_at_each_stretch(self):
        row = [(300 * k, 300 * k + 299, k) for k in range(5)]
        prices = (99, 99, 1, 99, 99)
        for first, weights, most in (
            (1, [100, 1, 1, 1, 1], 104 + 8),
            (2, [1, 100, 1, 1, 1], 104 + 101 + 5),
            (3, [1, 0, 100, 1, 1], 103 + 102 + 2),
            (4, [1, 1, 1, 1, 100], 104 + 8),
        ):
            # All others than a below at this very stretch cost more.
            paper = run_paper(row, weights, prices)
            self.assertEqual(paper[0][4], most)
            self.assertEqual(paper[0][first - 1] + paper[first][4 - first] + sum(weights), most)
            self.shows(paper, True, row, weights, prices)
            self.shows(with_number(paper, 0, 4, most + 1), False, row, weights, prices)

    def test_papers_that_lie_below_their_bounds(self):
        chance = random.Random(172)
        for many in list(range(1, 7)) * 12:
            row = some_stretches(chance, many, chance.randrange(2, 6), chance.choice([1, 3, 15, 40, 90, 300]))
            weights = some_weights(chance, many)
            prices = some_prices(chance, 5)
            paper, spare = lowered_paper(chance, row, weights, prices, chance.choice([1, 20, 10 ** 4]))
            self.shows(paper, True, row, weights, prices)
            for first, part in enumerate(paper):
                for place, number in enumerate(part):
                    most = number + spare[first][place]
                    self.shows(with_number(paper, first, place, most), True, row, weights, prices)
                    self.shows(with_number(paper, first, place, most + 1), False, row, weights, prices)
                    changed = with_number(paper, first, place, number - 1)
                    self.shows(changed, plain_shows(row, weights, prices, changed), row, weights, prices)

    def test_papers_of_other_weights_or_prices(self):
        chance = random.Random(173)
        seen = set()
        for many in list(range(2, 7)) * 10:
            row = some_stretches(chance, many, 3, chance.choice([3, 40, 300]))
            weights, others = some_weights(chance, many), some_weights(chance, many)
            prices, unlike = some_prices(chance, 5), some_prices(chance, 5)
            for paper in (run_paper(row, others, prices), run_paper(row, weights, unlike)):
                whether = plain_shows(row, weights, prices, paper)
                seen.add(whether)
                self.shows(paper, whether, row, weights, prices)
        self.assertEqual(seen, {True, False})
        self.shows(run_paper(ROW, [6, 4, 9, 2], ONES), False)
        self.shows(run_paper(ROW, WEIGHTS, (2, 2, 2, 2, 2)), False)

    def test_30_stretches(self):
        chance = random.Random(174)
        for labels, wide in ((2, 2), (9, 30)):
            row = some_stretches(chance, 30, labels, wide)
            weights = some_weights(chance, 30)
            prices = some_prices(chance, 5)
            paper, spare = lowered_paper(chance, row, weights, prices, 9)
            self.shows(paper, True, row, weights, prices)
            for _ in range(20):
                first = chance.randrange(30)
                place = chance.randrange(30 - first)
                number = paper[first][place] + spare[first][place]
                self.shows(with_number(paper, first, place, number), True, row, weights, prices)
                self.shows(with_number(paper, first, place, number + 1), False, row, weights, prices)

    def test_the_paper_bounds_its_last_number_alone(self):
        paper = run_paper(ROW, WEIGHTS, ONES)
        self.shows(with_number(paper, 0, 3, -10 ** 40), True)


class Forms(unittest.TestCase):
    def setUp(self):
        self.paper = run_paper(ROW, WEIGHTS, ONES)

    def refuses(self, thing):
        self.assertIs(shows_runs(ROW, WEIGHTS, ONES, thing), False, thing)

    def test_lists_too_few_or_too_many(self):
        self.assertIs(shows_runs(ROW, WEIGHTS, ONES, self.paper), True)
        self.refuses([])
        self.refuses(self.paper[:-1])
        self.refuses(self.paper[1:])
        self.refuses(self.paper + [[]])
        self.refuses(self.paper + [[0]])
        self.refuses([[]] + self.paper)

    def test_lists_too_short_or_too_long(self):
        for first in range(4):
            for part in (self.paper[first][:-1], self.paper[first][1:], self.paper[first] + [-10 ** 9], []):
                self.refuses(self.paper[:first] + [part] + self.paper[first + 1:])

    def test_other_things_in_the_place_of_a_number(self):
        for first in range(4):
            for place in range(4 - first):
                for thing in [True, False, None, "0", (), [], [0], (0,)] + ODD_THINGS:
                    self.refuses(with_number(self.paper, first, place, thing))

    def test_tuples_in_the_place_of_lists(self):
        self.refuses(tuple(self.paper))
        for first in range(4):
            self.refuses(self.paper[:first] + [tuple(self.paper[first])] + self.paper[first + 1:])

    def test_other_things_in_the_place_of_a_list(self):
        for first in range(4):
            for thing in ODD_THINGS + [0, -1, "-1-1"]:
                # The last list is [0] itself.
                if thing != self.paper[first]:
                    self.refuses(self.paper[:first] + [thing] + self.paper[first + 1:])

    def test_things_of_other_makes(self):
        for thing in ODD_THINGS + [0, 4, -1, "[[0]]", ("paper",)]:
            self.refuses(thing)
            self.assertIs(shows_runs([(0, 9, 1)], [1], ONES, thing), False)
            self.assertIs(shows_runs([(0, 9, 1)], [1], ONES, [thing]), thing == [0])


class AskedAgain(unittest.TestCase):
    def test_nothing_handed_in_is_changed(self):
        row, weights = list(ROW), list(WEIGHTS)
        paper = run_paper(row, weights, ONES)
        wrong = with_number(paper, 1, 1, 10 ** 6)
        kept = copy.deepcopy((row, weights, paper, wrong))
        for _ in range(2):
            self.assertIs(shows_runs(row, weights, ONES, paper), True)
            self.assertIs(shows_runs(row, weights, ONES, wrong), False)
        self.assertEqual((row, weights, paper, wrong), kept)


if __name__ == "__main__":
    unittest.main()
