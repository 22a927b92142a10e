"""Points [19] and [20]: the lookers at papers for all plans, by costs and by room."""

import copy
import random
import unittest

from caseways.leastcheck import shows_costs, shows_rooms
from caseways.leasts import cost_paper, room_paper
from helper import ODD_THINGS, WORDS, across, plain_bounds, some_prices, some_stretches, some_weights

ONES = (1, 1, 1, 1, 1)
SIZES = (1, 1, 1, 1, 1, 1)
ROW = [(0, 3, 0), (4, 4, 1), (5, 9, 0), (10, 10, 2)]
WEIGHTS = [5, 4, 9, 2]
FAR = 10 ** 12


def members(some):
    """The stretches of a set."""
    return [k for k in range(20) if some >> k & 1]


def by_costs(row, weights, prices):
    """What a way's test costs, by its word and who is left."""
    def charge(word, left):
        return 0 if word == "pick" else prices[WORDS.index(word)] * sum(weights[k] for k in left)
    return charge


def by_rooms(row, sizes):
    """The room that a way's test takes, by its word and who is left."""
    def charge(word, left):
        if word == "pick":
            return 0
        return sizes[WORDS.index(word)] + (sizes[5] * across(row, left) if word == "table" else 0)
    return charge


def bounds_at(row, charge, paper, some):
    """What bounds the number of a set."""
    return plain_bounds(row, members(some), charge, lambda left: paper[sum(2 ** k for k in left)])


def plain_shows(row, charge, paper):
    """Whether each number of a paper is at most what each way charges."""
    return all(paper[some] <= min(bounds_at(row, charge, paper, some)) for some in range(1, len(paper)))


def lowered_paper(chance, row, charge, lowest):
    """A paper whose numbers lie at most so far below what bounds them, and how far each does."""
    paper = [chance.choice([0, FAR, -FAR])]
    spare = [0]
    for some in range(1, 2 ** len(row)):
        least = min(bounds_at(row, charge, paper, some))
        spare.append(chance.choice([0, 0, chance.randrange(lowest + 1)]))
        paper.append(least - spare[-1])
    return paper, spare


def with_number(paper, place, number):
    """A paper with another number at a place."""
    return paper[:place] + [number] + paper[place + 1:]


class Costs(unittest.TestCase):
    def shows(self, paper, whether, row=ROW, weights=WEIGHTS, prices=ONES):
        self.assertIs(shows_costs(row, weights, prices, paper), whether, (row, weights, prices, paper))

    def test_of_the_empty_set_any_number(self):
        paper = cost_paper(ROW, WEIGHTS, ONES)
        for number in (0, 1, -1, FAR, -FAR):
            self.shows(with_number(paper, 0, number), True)

    def test_one_stretch(self):
        for number, whether in ((0, True), (-1, True), (-FAR, True), (1, False), (FAR, False)):
            self.shows([7, number], whether, [(0, 3, 1)], [9])
            self.shows([7, number], whether, [(0, 300, 1)], [0])

    def test_one_more_and_one_less_at_each_place(self):
        paper = cost_paper(ROW, WEIGHTS, ONES)
        self.shows(paper, True)
        for some in range(1, 16):
            self.shows(with_number(paper, some, paper[some] + 1), False)
            self.shows(with_number(paper, some, paper[some] + FAR), False)
            for less in (1, 3, FAR):
                changed = with_number(paper, some, paper[some] - less)
                self.shows(changed, plain_shows(ROW, by_costs(ROW, WEIGHTS, ONES), changed))
        self.shows(with_number(paper, 15, paper[15] - FAR), True)

    def test_sets_of_one_label(self):
        # Stretches 0 and 2 have label 0: 0 at most, and at most what each way costs there, too.
        row = [(0, 0, 0), (1, 1, 1), (2, 2, 0)]
        prices = (2, 3, 5, 50, 50)
        paper = cost_paper(row, [1, 1, 1], prices)
        self.assertEqual(paper[5], 0)
        self.shows(with_number(paper, 5, 1), False, row, [1, 1, 1], prices)
        for one, other, most in (
            (0, 0, 0), (-3, 0, 0), (-4, 0, 0), (-5, 0, -1), (0, -7, -3), (-20, -20, -30), (-8, -8, -6), (-6, -6, -2),
        ):
            # By is 4 and the other one's number, by below 10 and both.
            lower = [0, one, 0, -FAR, other, most, -FAR, -9 * FAR]
            self.shows(lower, True, row, [1, 1, 1], prices)
            self.shows(with_number(lower, 5, most + 1), False, row, [1, 1, 1], prices)

    def test_is_only_of_a_single_number(self):
        prices = (1, 3, 50, 50, 50)
        for high, most in ((1, 2 - 50), (2, 6 - 50)):
            row = [(0, 0, 0), (1, high, 1)]
            # The number of stretch 0 lies low, so a test of stretch 1 bounds that of both.
            self.shows([0, -50, 0, most], True, row, [1, 1], prices)
            self.shows([0, -50, 0, most + 1], False, row, [1, 1], prices)

    def test_a_table_of_200_numbers_and_of_201(self):
        prices = (99, 99, 99, 99, 1)
        for high, most in ((199, 7), (200, 99 * 7)):
            row = [(0, 99, 0), (100, high, 1)]
            self.shows([0, 0, 0, most], True, row, [3, 4], prices)
            self.shows([0, 0, 0, most + 1], False, row, [3, 4], prices)

    def test_a_mask_of_64_numbers_and_of_65(self):
        prices = (99, 99, 99, 1, 99)
        for high, most in ((63, 7), (64, 99 * 7)):
            row = [(0, 30, 0), (31, high, 1)]
            self.shows([0, 0, 0, most], True, row, [3, 4], prices)
            self.shows([0, 0, 0, most + 1], False, row, [3, 4], prices)

    def test_spans_of_stretches_gone_between(self):
        # Stretch 1 is gone in the set of 0 and 2; its numbers count all the same.
        for price, most_high in (("mask", 63), ("table", 199)):
            prices = tuple(1 if word == price else 99 for word in WORDS)
            for high, most in ((most_high, 7), (most_high + 1, 99 * 7)):
                row = [(0, 0, 0), (1, high - 1, 1), (high, high, 2)]
                paper = cost_paper(row, [3, 50, 4], prices)
                self.assertEqual(paper[5], most)
                self.shows(with_number(paper, 5, most + 1), False, row, [3, 50, 4], prices)
                paper = [0, 0, 0, -FAR, 0, most, -FAR, -3 * FAR]
                self.shows(paper, True, row, [3, 50, 4], prices)
                self.shows(with_number(paper, 5, most + 1), False, row, [3, 50, 4], prices)

    def test_papers_that_lie_below_their_bounds(self):
        chance = random.Random(191)
        for many in [1, 2, 3, 4, 5] * 12:
            row = some_stretches(chance, many, chance.randrange(2, 6), chance.choice([1, 3, 15, 40, 90, 300]))
            weights = some_weights(chance, many)
            prices = some_prices(chance, 5)
            charge = by_costs(row, weights, prices)
            paper, spare = lowered_paper(chance, row, charge, chance.choice([1, 20, 10 ** 4]))
            self.shows(paper, True, row, weights, prices)
            for some in range(1, 2 ** many):
                most = paper[some] + spare[some]
                self.shows(with_number(paper, some, most), True, row, weights, prices)
                self.shows(with_number(paper, some, most + 1), False, row, weights, prices)
                changed = with_number(paper, some, paper[some] - 1)
                self.shows(changed, plain_shows(row, charge, changed), row, weights, prices)

    def test_papers_of_other_weights_or_prices(self):
        chance = random.Random(192)
        seen = set()
        for many in list(range(2, 6)) * 10:
            row = some_stretches(chance, many, 3, chance.choice([3, 40, 300]))
            weights, others = some_weights(chance, many), some_weights(chance, many)
            prices, unlike = some_prices(chance, 5), some_prices(chance, 5)
            for paper in (cost_paper(row, others, prices), cost_paper(row, weights, unlike)):
                whether = plain_shows(row, by_costs(row, weights, prices), paper)
                seen.add(whether)
                self.shows(paper, whether, row, weights, prices)
        self.assertEqual(seen, {True, False})
        self.shows(cost_paper(ROW, [6, 4, 9, 2], ONES), False)
        self.shows(cost_paper(ROW, WEIGHTS, (2, 2, 2, 2, 2)), False)

    def test_10_stretches(self):
        chance = random.Random(193)
        row = some_stretches(chance, 10, 4, 30)
        weights, prices = some_weights(chance, 10), some_prices(chance, 5)
        paper, spare = lowered_paper(chance, row, by_costs(row, weights, prices), 9)
        self.shows(paper, True, row, weights, prices)
        for _ in range(20):
            some = chance.randrange(1, 1024)
            self.shows(with_number(paper, some, paper[some] + spare[some]), True, row, weights, prices)
            self.shows(with_number(paper, some, paper[some] + spare[some] + 1), False, row, weights, prices)


class Rooms(unittest.TestCase):
    def shows(self, paper, whether, row=ROW, sizes=SIZES):
        self.assertIs(shows_rooms(row, sizes, paper), whether, (row, sizes, paper))

    def test_of_the_empty_set_any_number(self):
        paper = room_paper(ROW, SIZES)
        for number in (0, 1, -1, FAR, -FAR):
            self.shows(with_number(paper, 0, number), True)

    def test_one_stretch(self):
        for number, whether in ((0, True), (-1, True), (-FAR, True), (1, False), (FAR, False)):
            self.shows([7, number], whether, [(0, 3, 1)])
            self.shows([7, number], whether, [(0, 300, 1)])

    def test_one_more_and_one_less_at_each_place(self):
        for sizes in (SIZES, (5, 4, 3, 3, 1, 1), (9, 9, 9, 2, 5, 1)):
            paper = room_paper(ROW, sizes)
            self.shows(paper, True, ROW, sizes)
            for some in range(1, 16):
                self.shows(with_number(paper, some, paper[some] + 1), False, ROW, sizes)
                self.shows(with_number(paper, some, paper[some] + FAR), False, ROW, sizes)
                for less in (1, 3, FAR):
                    changed = with_number(paper, some, paper[some] - less)
                    self.shows(changed, plain_shows(ROW, by_rooms(ROW, sizes), changed), ROW, sizes)
            self.shows(with_number(paper, 15, paper[15] - FAR), True, ROW, sizes)

    def test_a_table_has_its_size_and_its_places(self):
        row = [(0, 4, 0), (5, 9, 1)]
        self.shows([0, 0, 0, 3 + 20], True, row, (99, 99, 99, 99, 3, 2))
        self.shows([0, 0, 0, 3 + 21], False, row, (99, 99, 99, 99, 3, 2))
        row = [(0, 99, 0), (100, 199, 1)]
        self.shows([0, 0, 0, 99], True, row, (99, 99, 99, 99, 1, 1))
        self.shows([0, 0, 0, 100], False, row, (99, 99, 99, 99, 1, 1))

    def test_a_table_for_stretches_with_others_gone_between(self):
        row = [(0, 0, 0), (1, 20, 1), (21, 21, 2)]
        paper = [0, 0, 0, -FAR, 0, 3 + 22, -FAR, -3 * FAR]
        self.shows(paper, True, row, (99, 99, 99, 99, 3, 1))
        self.shows(with_number(paper, 5, 3 + 23), False, row, (99, 99, 99, 99, 3, 1))

    def test_papers_that_lie_below_their_bounds(self):
        chance = random.Random(203)
        for many in [1, 2, 3, 4, 5] * 12:
            row = some_stretches(chance, many, chance.randrange(2, 6), chance.choice([1, 3, 15, 40, 90, 300]))
            sizes = some_prices(chance, 5) + (chance.choice([1, 1, 2, 99]),)
            charge = by_rooms(row, sizes)
            paper, spare = lowered_paper(chance, row, charge, chance.choice([1, 20, 300]))
            self.shows(paper, True, row, sizes)
            for some in range(1, 2 ** many):
                most = paper[some] + spare[some]
                self.shows(with_number(paper, some, most), True, row, sizes)
                self.shows(with_number(paper, some, most + 1), False, row, sizes)
                changed = with_number(paper, some, paper[some] - 1)
                self.shows(changed, plain_shows(row, charge, changed), row, sizes)

    def test_papers_of_other_sizes(self):
        chance = random.Random(204)
        seen = set()
        for many in list(range(2, 6)) * 10:
            row = some_stretches(chance, many, 3, chance.choice([3, 40, 300]))
            sizes, unlike = some_prices(chance, 6), some_prices(chance, 6)
            paper = room_paper(row, unlike)
            seen.add(plain_shows(row, by_rooms(row, sizes), paper))
            self.shows(paper, plain_shows(row, by_rooms(row, sizes), paper), row, sizes)
        self.assertEqual(seen, {True, False})
        self.shows(room_paper(ROW, (2, 2, 2, 2, 2, 2)), False)


class Forms(unittest.TestCase):
    def setUp(self):
        self.costs = cost_paper(ROW, WEIGHTS, ONES)
        self.rooms = room_paper(ROW, SIZES)

    def refuses(self, change):
        """Whether both lookers refuse what is made of their papers."""
        self.assertIs(shows_costs(ROW, WEIGHTS, ONES, change(self.costs)), False, change(self.costs))
        self.assertIs(shows_rooms(ROW, SIZES, change(self.rooms)), False, change(self.rooms))

    def test_too_short_or_too_long(self):
        self.refuses(lambda paper: paper[:-1])
        self.refuses(lambda paper: paper[1:])
        self.refuses(lambda paper: paper[:8])
        self.refuses(lambda paper: [])
        self.refuses(lambda paper: paper + [-FAR])
        self.refuses(lambda paper: [0] + paper)
        self.refuses(lambda paper: paper + [-FAR] * 16)

    def test_tuples_in_the_place_of_lists(self):
        self.refuses(tuple)

    def test_other_things_in_the_place_of_a_number(self):
        for place in range(16):
            for thing in [True, False, None, "0", (), [], [0], (0,)] + ODD_THINGS:
                self.refuses(lambda paper: with_number(paper, place, thing))

    def test_things_of_other_makes(self):
        for thing in ODD_THINGS + [0, 16, -1, "0" * 16, [[0] * 16], [[]] * 16, [()] * 16]:
            self.refuses(lambda paper: thing)
            self.assertIs(shows_costs([(0, 9, 1)], [1], ONES, thing), False)
            self.assertIs(shows_rooms([(0, 9, 1)], SIZES, thing), False)

    def test_rows_of_many_stretches(self):
        row = [(k, k, k % 2) for k in range(60)]
        for thing in ODD_THINGS + [self.costs, [0] * 1024]:
            self.assertIs(shows_costs(row, [1] * 60, ONES, thing), False)
            self.assertIs(shows_rooms(row, SIZES, thing), False)


class AskedAgain(unittest.TestCase):
    def test_nothing_handed_in_is_changed(self):
        row, weights = list(ROW), list(WEIGHTS)
        costs, rooms = cost_paper(row, weights, ONES), room_paper(row, SIZES)
        kept = copy.deepcopy((row, weights, costs, rooms))
        for _ in range(2):
            self.assertIs(shows_costs(row, weights, ONES, costs), True)
            self.assertIs(shows_costs(row, weights, ONES, with_number(costs, 9, FAR)), False)
            self.assertIs(shows_rooms(row, SIZES, rooms), True)
            self.assertIs(shows_rooms(row, SIZES, with_number(rooms, 9, FAR)), False)
        self.assertEqual((row, weights, costs, rooms), kept)


if __name__ == "__main__":
    unittest.main()
